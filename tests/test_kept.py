"""Point 1: what is handed in stays as it is, what is given back may be changed, and all may be asked again."""

import copy
import unittest

from wordsums.cases import answers, size_of, table_of
from wordsums.errors import BadSheet, ManyAnswers
from wordsums.sheets import Sheet, keeps, worth

SUMS = [(("a", "bc"), "bd"), (("d",), "d")]


class Point1(unittest.TestCase):
    def test_a_sheet_keeps_a_copy(self):
        sums = list(SUMS)
        sheet = Sheet(6, sums)
        before = (sheet.letters(), table_of(sheet), answers(sheet))
        self.assertEqual(sums, SUMS)
        sums[0] = (("x",), "y")
        sums.append((("z",), "z"))
        self.assertEqual(sheet.sums(), SUMS)
        self.assertEqual((sheet.letters(), table_of(sheet), answers(sheet)), before)
        sums.clear()
        self.assertEqual(sheet.sums(), SUMS)

    def test_what_a_sheet_tells_may_be_changed(self):
        sheet = Sheet(6, SUMS)
        sheet.sums().clear()
        sheet.sums().append((("x",), "y"))
        sheet.letters().reverse()
        sheet.letters().append("z")
        self.assertEqual(sheet.sums(), SUMS)
        self.assertEqual(sheet.letters(), ["a", "c", "d", "b"])

    def test_the_answers_told_may_be_changed(self):
        sheet = Sheet(6, SUMS)
        told = answers(sheet)
        kept = list(told)
        self.assertTrue(told)
        told.reverse()
        told.pop()
        self.assertEqual(answers(sheet), kept)

    def test_asked_again(self):
        sheet = Sheet(6, SUMS)
        for ask in (Sheet.sums, Sheet.letters, table_of, answers):
            first = ask(sheet)
            self.assertEqual([ask(sheet), ask(sheet), ask(Sheet(6, SUMS))], [first] * 3, ask)
        table = table_of(sheet)
        self.assertEqual(size_of(table), size_of(table))
        self.assertEqual((sheet.base, sheet.sums()), (6, SUMS))

    def test_one_sheet_does_not_reach_another(self):
        one, other = Sheet(6, SUMS), Sheet(4, [(("a", "a"), "bc")])
        before = (answers(one), table_of(one), one.letters())
        answers(other)
        table_of(other)
        self.assertEqual((answers(one), table_of(one), one.letters()), before)

    def test_figures_handed_in_are_not_changed(self):
        sheet = Sheet(6, SUMS)
        for figures in ({"a": 1, "b": 2, "c": 3, "d": 4}, {"d": 0, "c": 3, "b": 0, "a": 9}):
            before = list(figures.items())
            told = keeps(sheet, figures)
            worth("abcd", figures, 6)
            self.assertEqual(list(figures.items()), before)
            self.assertEqual(keeps(sheet, figures), told)

    def test_a_refusal_changes_nothing_and_comes_again(self):
        sums = [(("a",), "b"), (("",), "a")]
        before = copy.deepcopy(sums)
        for _ in range(2):
            with self.assertRaises(BadSheet) as caught:
                Sheet(6, sums)
            self.assertEqual((caught.exception.at, caught.exception.why), (1, "word"))
            self.assertEqual(sums, before)

    def test_an_error_keeps_a_copy(self):
        two = [(1, 2), (2, 1)]
        error = ManyAnswers(two)
        error.two.reverse()
        self.assertEqual(two, [(1, 2), (2, 1)])
        two.clear()
        self.assertEqual(error.two, [(2, 1), (1, 2)])


if __name__ == "__main__":
    unittest.main()
