"""Points 9 and 11 to 13: one answer, what is sure, what must be given, and words that are worthy."""

import itertools
import unittest

from tests import oracle
from wordsums.cases import answers, table_of
from wordsums.errors import ManyAnswers, NoAnswer, NotOne
from wordsums.only import givens, only, sure, worthy
from wordsums.sheets import Sheet

SEND = [(("send", "more"), "money")]


def answers_by_letter(base, sums):
    """All answers, as dicts."""
    letters = oracle.letters_of(sums)
    return [dict(zip(letters, figures)) for figures in oracle.all_answers(base, sums)]


def having(told, known):
    """Those answers that have the known figures."""
    return [figures for figures in told if all(figures[letter] == known[letter] for letter in known)]


class Point9(unittest.TestCase):
    """The only answer."""

    def test_one(self):
        sheet = Sheet(2, [(("a", "a"), "ab")])
        self.assertEqual(only(sheet), ((1, 0), ("cases", "a", ((1, ("so", 0, 0, ("answer",))),))))
        self.assertIs(type(only(sheet)), tuple)
        self.assertEqual(only(Sheet(10, SEND)), ((7, 5, 2, 6, 8, 0, 9, 1), table_of(Sheet(10, SEND))))

    def test_none(self):
        with self.assertRaises(NoAnswer) as caught:
            only(Sheet(2, [(("a",), "b")]))
        self.assertEqual(caught.exception.table, ("cases", "a", ((0, ("taken", 0, 0)), (1, ("taken", 0, 0)))))

    def test_many(self):
        with self.assertRaises(ManyAnswers) as caught:
            only(Sheet(12, [(("a", "b"), "c")]))
        self.assertEqual(caught.exception.two, [(1, 2, 3), (1, 3, 4)])
        self.assertIs(type(caught.exception.two), list)

    def test_just_two(self):
        with self.assertRaises(ManyAnswers) as caught:
            only(Sheet(4, [(("a", "a"), "bc")]))
        self.assertEqual(caught.exception.two, [(2, 0, 1), (3, 2, 1)])

    def test_all_small_sheets(self):
        counts = set()
        for base, sums in oracle.small_sheets():
            told = oracle.all_answers(base, sums)
            sheet = Sheet(base, sums)
            counts.add(min(len(told), 3))
            try:
                answer, table = only(sheet)
                self.assertEqual([answer], told, (base, sums))
                self.assertEqual(table, table_of(sheet), (base, sums))
            except NoAnswer as error:
                self.assertEqual(told, [], (base, sums))
                self.assertEqual(error.table, table_of(sheet), (base, sums))
            except ManyAnswers as error:
                self.assertGreater(len(told), 1, (base, sums))
                self.assertEqual(error.two, told[:2], (base, sums))
        self.assertEqual(counts, {0, 1, 2, 3})


class Point11(unittest.TestCase):
    """What is sure."""

    def test_nothing_known(self):
        sheet = Sheet(10, SEND)
        self.assertEqual(sure(sheet, {}), dict(zip(sheet.letters(), (7, 5, 2, 6, 8, 0, 9, 1))))
        self.assertEqual(sure(Sheet(4, [(("a", "a"), "bc")]), {}), {"b": 1})
        self.assertEqual(sure(Sheet(3, [(("a",), "a")]), {}), {})

    def test_some_known(self):
        sheet = Sheet(4, [(("a", "a"), "bc")])
        self.assertEqual(sure(sheet, {"a": 2}), {"a": 2, "b": 1, "c": 0})
        self.assertEqual(sure(sheet, {"c": 2}), {"a": 3, "b": 1, "c": 2})
        self.assertEqual(sure(sheet, {"b": 1}), {"b": 1})
        sheet = Sheet(12, [(("a", "b"), "c")])
        self.assertEqual(sure(sheet, {"a": 3}), {"a": 3})
        self.assertEqual(sure(sheet, {"a": 3, "b": 5}), {"a": 3, "b": 5, "c": 8})
        self.assertEqual(sure(sheet, {"c": 11, "b": 1}), {"a": 10, "b": 1, "c": 11})
        self.assertEqual(sure(sheet, {"a": 10}), {"a": 10, "b": 1, "c": 11})

    def test_all_known(self):
        for told in ((2, 0, 1), (3, 2, 1)):
            known = dict(zip("acb", told))
            self.assertEqual(sure(Sheet(4, [(("a", "a"), "bc")]), known), known)

    def test_no_answer_has_them(self):
        for base, sums, known in (
            (4, [(("a", "a"), "bc")], {"a": 1}),
            (4, [(("a", "a"), "bc")], {"a": 2, "c": 2}),
            (4, [(("a", "a"), "bc")], {"b": 0}),
            (4, [(("a", "a"), "bc")], {"a": 3, "b": 1, "c": 0}),
            (4, [(("a", "a"), "bc")], {"a": 4}),
            (4, [(("a", "a"), "bc")], {"a": -1}),
            (4, [(("a", "a"), "bc")], {"c": 12}),
            (3, [(("a",), "a"), (("b",), "b")], {"a": 1, "b": 1}),
            (10, SEND, {"m": 2}),
        ):
            with self.assertRaises(NotOne, msg=(base, sums, known)):
                sure(Sheet(base, sums), known)

    def test_the_sheet_has_no_answer(self):
        for known in ({}, {"a": 0}, {"a": 0, "b": 1}):
            with self.assertRaises(NotOne):
                sure(Sheet(2, [(("a",), "b")]), known)

    def test_all_small_sheets_with_each_figure_known(self):
        for base, sums in list(oracle.small_sheets())[::7]:
            letters = oracle.letters_of(sums)
            all_told = answers_by_letter(base, sums)
            knowns = [{}] + [{letter: figure} for letter in letters for figure in range(base)]
            knowns += [{letters[0]: one, letters[-1]: other} for one in range(base) for other in range(base)]
            for known in knowns:
                told = having(all_told, known)
                if told:
                    want = {x: told[0][x] for x in letters if len({figures[x] for figures in told}) == 1}
                    self.assertEqual(sure(Sheet(base, sums), known), want, (base, sums, known))
                else:
                    with self.assertRaises(NotOne):
                        sure(Sheet(base, sums), known)


class Point12(unittest.TestCase):
    """What must be given."""

    def test_one_answer_needs_nothing(self):
        self.assertEqual(givens(Sheet(10, SEND), (7, 5, 2, 6, 8, 0, 9, 1)), [])
        self.assertEqual(givens(Sheet(2, [(("a", "a"), "ab")]), (1, 0)), [])

    def test_found_from_the_last_letter_on(self):
        # a, c, b are the letters: b and then c are left out, since a alone is enough.
        sheet = Sheet(4, [(("a", "a"), "bc")])
        self.assertEqual(sheet.letters(), ["a", "c", "b"])
        self.assertEqual(givens(sheet, (2, 0, 1)), ["a"])
        self.assertEqual(givens(sheet, (3, 2, 1)), ["a"])

    def test_the_letters_order(self):
        # Any two of the letters tell the third: the first two are left.
        sheet = Sheet(12, [(("b", "a"), "c")])
        self.assertEqual(givens(sheet, (1, 2, 3)), ["b", "a"])
        # As b can be 1 alone where a is 10, a is enough; b is left out ahead of it, c ahead of b.
        self.assertEqual(givens(Sheet(12, [(("a", "b"), "c")]), (10, 1, 11)), ["a"])
        # b is kept, as a is 1 in many answers; then a is left out, as b is 10 in this one alone.
        self.assertEqual(givens(Sheet(12, [(("a", "b"), "c")]), (1, 10, 11)), ["b"])

    def test_one_or_some_letters(self):
        self.assertEqual(givens(Sheet(4, [(("a", "b"), "c")]), (1, 2, 3)), ["a"])
        self.assertEqual(givens(Sheet(3, [(("a",), "a"), (("b",), "b"), (("c",), "c")]), (2, 0, 1)), ["a", "b"])
        self.assertEqual(givens(Sheet(4, [(("a",), "a"), (("b",), "b")]), (2, 0)), ["a", "b"])

    def test_no_answers(self):
        sheet = Sheet(4, [(("a", "a"), "bc")])
        for figures in ((1, 2, 0), (2, 1, 0), (3, 2, 0), (2, 0), (2, 0, 1, 3), (), (-2, 0, 1), (2, 0, 5), (0, 0, 0)):
            with self.assertRaises(NotOne, msg=figures):
                givens(sheet, figures)
        with self.assertRaises(NotOne):
            givens(Sheet(2, [(("a",), "b")]), (0, 1))

    def test_each_answer_of_all_small_sheets(self):
        for base, sums in list(oracle.small_sheets())[::3]:
            letters = oracle.letters_of(sums)
            told = answers_by_letter(base, sums)
            for figures in told[::5]:
                left = list(letters)
                for letter in reversed(letters):
                    fewer = [other for other in left if other != letter]
                    if having(told, {other: figures[other] for other in fewer}) == [figures]:
                        left = fewer
                answer = tuple(figures[letter] for letter in letters)
                self.assertEqual(givens(Sheet(base, sums), answer), left, (base, sums, answer))

    def test_what_is_given_leaves_that_answer_alone(self):
        sheet = Sheet(9, [(("ab", "bc"), "de")])
        letters = sheet.letters()
        told = answers(sheet)
        for answer in told[::7]:
            figures = dict(zip(letters, answer))
            known = {letter: figures[letter] for letter in givens(sheet, answer)}
            self.assertEqual(sure(sheet, known), figures)
            for letter in known:
                fewer = {other: known[other] for other in known if other != letter}
                self.assertNotEqual(sure(sheet, fewer), figures)


class Point13(unittest.TestCase):
    """Words that are worthy."""

    def test_send_more_money(self):
        self.assertEqual(worthy(10, ["send", "more", "money"]), [(0, 1, 2)])
        self.assertEqual(worthy(10, ["money", "send", "more"]), [(1, 2, 0)])
        self.assertEqual(worthy(10, ["more", "money", "send"]), [(0, 2, 1)])
        self.assertEqual(worthy(11, ["send", "more", "money"]), [])

    def test_rising(self):
        # a + a is ab by 1 and 0, and a + a is a by 0.
        words = ["ab", "a", "a", "ab", "a"]
        first = [(1, 2, 0), (1, 2, 3), (1, 2, 4), (1, 4, 0), (1, 4, 2), (1, 4, 3)]
        self.assertEqual(worthy(2, words), [*first, (2, 4, 0), (2, 4, 1), (2, 4, 3)])

    def test_the_same_word_twice(self):
        self.assertEqual(worthy(2, ["a", "a", "ab"]), [(0, 1, 2)])
        self.assertEqual(worthy(2, ["a", "ab"]), [])
        # The word k is another one than i and j, but may be the same text: a + a = a by 0 alone.
        self.assertEqual(worthy(2, ["a", "a", "a"]), [(0, 1, 2), (0, 2, 1), (1, 2, 0)])
        self.assertEqual(worthy(2, ["a", "a"]), [])

    def test_too_few_words(self):
        for words in ([], ["a"], ["a", "b"]):
            self.assertEqual(worthy(10, words), [])

    def test_words_of_which_no_sheet_can_be(self):
        for bad in ("", "aaaaaaa", "abbbbbbbbbb"):
            self.assertEqual(worthy(2, [bad, "a", "a", "ab"]), [(1, 2, 3)])
            self.assertEqual(worthy(2, ["a", "a", "ab", bad]), [(0, 1, 2)])
            self.assertEqual(worthy(2, [bad, bad, bad]), [])
        # Six letters are not too many, seven are.
        self.assertEqual(worthy(2, ["aaaaaa", "b", "aaaaaa"]), [(0, 1, 2), (1, 2, 0)])
        self.assertEqual(worthy(2, ["aaaaaaa", "b", "aaaaaaa"]), [])

    def test_too_many_letters(self):
        # Three letters in base 2, which has figures for two.
        self.assertEqual(worthy(2, ["a", "b", "c"]), [])
        self.assertEqual(worthy(3, ["aa", "b", "cca"]), [])
        # Nine letters in base 12.
        self.assertEqual(worthy(12, ["abc", "def", "ghi"]), [])

    def test_none_and_many_answers(self):
        self.assertEqual(worthy(2, ["ab", "ab", "a"]), [])
        self.assertEqual(worthy(12, ["a", "b", "c"]), [])

    def test_all_of_some_words_in_each_base(self):
        words = ["a", "ab", "b", "ba", "", "aab", "b", "aaaabbb"]
        for base in range(2, 13):
            want = []
            for i, j, k in itertools.product(range(len(words)), repeat=3):
                sums = [((words[i], words[j]), words[k])]
                if i < j and k not in (i, j) and all(1 <= len(words[at]) <= 6 for at in (i, j, k)):
                    if len(oracle.all_answers(base, sums)) == 1:
                        want.append((i, j, k))
            self.assertEqual(worthy(base, words), want, base)

    def test_kinds(self):
        told = worthy(10, ["send", "more", "money"])
        self.assertIs(type(told), list)
        self.assertIs(type(told[0]), tuple)


if __name__ == "__main__":
    unittest.main()
