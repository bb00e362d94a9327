"""Point 1: what is handed in stays as it is, what is given back may be changed, and all may be asked again."""

import copy
import unittest

from wordsums.cases import answers, size_of, table_of
from wordsums.counting import how_many
from wordsums.errors import BadSheet, BadText, ManyAnswers, NoAnswer, NotOne
from wordsums.notes import read, written
from wordsums.only import givens, only, sure, worthy
from wordsums.sheets import Sheet, keeps, worth
from wordsums.showing import shows

SUMS = [(("a", "bc"), "bd"), (("d",), "d")]
KNOWN = {"d": 4, "b": 2}


def refused(ask, *handed):
    """The error by which something is refused."""
    try:
        told = ask(*handed)
    except (BadSheet, BadText, ManyAnswers, NoAnswer, NotOne) as error:
        return error
    raise AssertionError(f"not refused: {told}")


def all_told(sheet):
    """Whatever can be asked of a sheet that has many answers."""
    return (
        sheet.base,
        sheet.sums(),
        sheet.letters(),
        table_of(sheet),
        answers(sheet),
        shows(sheet, table_of(sheet)),
        shows(sheet, ("answer",)),
        refused(only, sheet).two,
        sure(sheet, {}),
        sure(sheet, KNOWN),
        givens(sheet, answers(sheet)[0]),
        how_many(sheet),
        written(sheet),
    )


class Point1(unittest.TestCase):
    def test_a_sheet_keeps_a_copy(self):
        sums = list(SUMS)
        sheet = Sheet(6, sums)
        before = (sheet.letters(), table_of(sheet), answers(sheet))
        self.assertEqual(sums, SUMS)
        sums[0] = (("x",), "y")
        sums.append((("z",), "z"))
        self.assertEqual(sheet.sums(), SUMS)
        self.assertEqual((sheet.letters(), table_of(sheet), answers(sheet)), before)
        sums.clear()
        self.assertEqual(sheet.sums(), SUMS)

    def test_what_a_sheet_tells_may_be_changed(self):
        sheet = Sheet(6, SUMS)
        sheet.sums().clear()
        sheet.sums().append((("x",), "y"))
        sheet.letters().reverse()
        sheet.letters().append("z")
        self.assertEqual(sheet.sums(), SUMS)
        self.assertEqual(sheet.letters(), ["a", "c", "d", "b"])

    def test_the_answers_told_may_be_changed(self):
        sheet = Sheet(6, SUMS)
        told = answers(sheet)
        kept = list(told)
        self.assertTrue(told)
        told.reverse()
        told.pop()
        self.assertEqual(answers(sheet), kept)

    def test_asked_again(self):
        sheet = Sheet(6, SUMS)
        for ask in (Sheet.sums, Sheet.letters, table_of, answers):
            first = ask(sheet)
            self.assertEqual([ask(sheet), ask(sheet), ask(Sheet(6, SUMS))], [first] * 3, ask)
        table = table_of(sheet)
        self.assertEqual(size_of(table), size_of(table))
        self.assertEqual((sheet.base, sheet.sums()), (6, SUMS))

    def test_one_sheet_does_not_reach_another(self):
        one, other = Sheet(6, SUMS), Sheet(4, [(("a", "a"), "bc")])
        before = (answers(one), table_of(one), one.letters())
        answers(other)
        table_of(other)
        self.assertEqual((answers(one), table_of(one), one.letters()), before)

    def test_all_may_be_asked_again(self):
        sheet = Sheet(6, SUMS)
        first = all_told(sheet)
        self.assertGreater(how_many(sheet), 2)
        self.assertEqual(all_told(sheet), first)
        refused(sure, sheet, {"d": 9})
        refused(givens, sheet, (0, 0, 0, 0))
        all_told(Sheet(7, SUMS))
        self.assertEqual(all_told(sheet), first)
        self.assertEqual(all_told(Sheet(6, SUMS)), first)
        self.assertEqual(all_told(read(written(sheet))), first)

    def test_lists_and_dicts_told_may_be_changed(self):
        sheet = Sheet(6, SUMS)
        for ask, *handed in (
            (shows, sheet, table_of(sheet)),
            (sure, sheet, KNOWN),
            (sure, sheet, dict(zip(sheet.letters(), answers(sheet)[0]))),
            (givens, sheet, answers(sheet)[0]),
            (worthy, 10, ["send", "more", "money"]),
        ):
            told = ask(*handed)
            kept = copy.copy(told)
            self.assertTrue(told, ask)
            told.clear()
            self.assertEqual(ask(*handed), kept, ask)

    def test_what_a_refusal_tells_may_be_changed(self):
        sheet = Sheet(6, SUMS)
        two = refused(only, sheet).two
        kept = list(two)
        two.reverse()
        two.pop()
        self.assertEqual(refused(only, sheet).two, kept)
        self.assertEqual(answers(sheet)[:2], kept)
        sheet = Sheet(2, [(("a",), "b")])
        self.assertEqual(refused(only, sheet).table, refused(only, sheet).table)
        self.assertEqual(refused(read, "base 10\n").row, refused(read, "base 10\n").row)

    def test_what_is_known_and_told_are_not_one(self):
        sheet = Sheet(4, [(("a", "a"), "bc")])
        known = {"a": 2, "b": 1, "c": 0}
        told = sure(sheet, known)
        told["a"] = 3
        self.assertEqual(known, {"a": 2, "b": 1, "c": 0})
        known["a"] = 3
        self.assertEqual(told, {"a": 3, "b": 1, "c": 0})
        self.assertEqual(sure(sheet, {"a": 2}), {"a": 2, "b": 1, "c": 0})

    def test_what_is_handed_in_is_not_changed(self):
        sheet = Sheet(6, SUMS)
        for known in ({}, {"d": 4}, KNOWN, {"c": 9}, {"d": 4, "c": 1, "b": 2, "a": 3}):
            before = list(known.items())
            try:
                sure(sheet, known)
            except NotOne:
                pass
            self.assertEqual(list(known.items()), before)
        words = ["send", "", "more", "money", "sendmore", "send"]
        before = list(words)
        worthy(10, words)
        self.assertEqual(words, before)
        self.assertEqual(sheet.sums(), SUMS)

    def test_a_sheet_that_is_read_stands_alone(self):
        text = "base 6\na + bc = bd\nd = d"
        sheet = read(text)
        sheet.sums().clear()
        sheet.letters().clear()
        self.assertEqual((sheet.base, sheet.sums()), (6, SUMS))
        self.assertEqual((read(text).sums(), written(sheet)), (SUMS, text))

    def test_figures_handed_in_are_not_changed(self):
        sheet = Sheet(6, SUMS)
        for figures in ({"a": 1, "b": 2, "c": 3, "d": 4}, {"d": 0, "c": 3, "b": 0, "a": 9}):
            before = list(figures.items())
            told = keeps(sheet, figures)
            worth("abcd", figures, 6)
            self.assertEqual(list(figures.items()), before)
            self.assertEqual(keeps(sheet, figures), told)

    def test_a_refusal_changes_nothing_and_comes_again(self):
        sums = [(("a",), "b"), (("",), "a")]
        before = copy.deepcopy(sums)
        for _ in range(2):
            with self.assertRaises(BadSheet) as caught:
                Sheet(6, sums)
            self.assertEqual((caught.exception.at, caught.exception.why), (1, "word"))
            self.assertEqual(sums, before)

    def test_an_error_keeps_a_copy(self):
        two = [(1, 2), (2, 1)]
        error = ManyAnswers(two)
        error.two.reverse()
        self.assertEqual(two, [(1, 2), (2, 1)])
        two.clear()
        self.assertEqual(error.two, [(2, 1), (1, 2)])


if __name__ == "__main__":
    unittest.main()
