"""The errors of the interface (wordsums/errors.py)."""

import unittest

from wordsums import errors
from wordsums.errors import BadSheet, BadText, ManyAnswers, NoAnswer, NotOne, SumError


class Errors(unittest.TestCase):
    def test_any_refusal_is_a_sum_error_and_a_value_error(self):
        self.assertEqual(SumError.__bases__, (ValueError,))

    def test_none_stands_under_another(self):
        for kind in (BadSheet, NoAnswer, ManyAnswers, NotOne, BadText):
            self.assertEqual(kind.__bases__, (SumError,), kind)

    def test_there_are_no_others(self):
        kinds = {name for name, value in vars(errors).items() if isinstance(value, type)}
        self.assertEqual(kinds, {"SumError", "BadSheet", "NoAnswer", "ManyAnswers", "NotOne", "BadText"})

    def test_fields(self):
        bad = BadSheet(2, "word")
        self.assertEqual((bad.at, bad.why), (2, "word"))
        self.assertEqual(NoAnswer(("over", 0)).table, ("over", 0))
        self.assertEqual(ManyAnswers([(1, 0), (2, 0)]).two, [(1, 0), (2, 0)])
        self.assertEqual(BadText(3).row, 3)

    def test_they_are_told_in_words(self):
        for error in (BadSheet(0, "base"), NoAnswer(()), ManyAnswers([]), NotOne(), NotOne("none has it"), BadText(0)):
            self.assertIsInstance(str(error), str)


if __name__ == "__main__":
    unittest.main()
