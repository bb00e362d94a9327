"""Points 2 to 5: sheets, their refusal, reading, worths and answers."""

import itertools
import unittest

from tests import oracle
from wordsums.errors import BadSheet
from wordsums.sheets import Sheet, keeps, worth

SEND = [(("send", "more"), "money")]
SENT = {"d": 7, "e": 5, "y": 2, "n": 6, "r": 8, "o": 0, "s": 9, "m": 1}


def plain(count):
    return [(("a",), "a")] * count


class Point2(unittest.TestCase):
    """What a sheet can be."""

    def test_what_is_handed_in_is_told(self):
        sheet = Sheet(10, SEND)
        self.assertEqual((sheet.base, sheet.sums()), (10, SEND))

    def test_bases(self):
        for base in range(2, 13):
            self.assertEqual(Sheet(base, plain(1)).base, base)

    def test_counts_of_sums(self):
        for count in (1, 2, 3):
            self.assertEqual(Sheet(2, plain(count)).sums(), plain(count))

    def test_counts_of_addends(self):
        for count in (1, 2, 3, 4):
            sums = [(("a",) * count, "b")]
            self.assertEqual(Sheet(2, sums).sums(), sums)

    def test_words_of_one_to_six_letters(self):
        for size in range(1, 7):
            sums = [(("azazaz"[:size], "a"), "zazaza"[:size])]
            self.assertEqual(Sheet(2, sums).sums(), sums)

    def test_each_small_letter_may_stand(self):
        for letter in "abcdefghijklmnopqrstuvwxyz":
            self.assertEqual(Sheet(2, [((letter,), letter)]).letters(), [letter])

    def test_as_many_letters_as_the_base_up_to_eight(self):
        for base in range(2, 13):
            word = "abcdefgh"[:base]
            sums = [((word[:4],), "a"), ((word[4:] or "a",), "b")]
            self.assertEqual(sorted(Sheet(base, sums).letters()), sorted(word))


class Point3(unittest.TestCase):
    """How a sheet that cannot be is refused."""

    def refused(self, base, sums, at, why):
        with self.assertRaises(BadSheet) as caught:
            Sheet(base, sums)
        self.assertEqual((caught.exception.at, caught.exception.why), (at, why))

    def test_base(self):
        for base in (-10, -1, 0, 1, 13, 14, 100):
            self.refused(base, plain(1), 0, "base")

    def test_count_of_sums(self):
        for count in (0, 4, 5):
            self.refused(10, plain(count), 0, "sums")

    def test_count_of_addends(self):
        for count in (0, 5, 6):
            bad = (("a",) * count, "a")
            self.refused(10, [bad], 0, "addends")
            self.refused(10, [(("a",), "a"), bad], 1, "addends")
            self.refused(10, [*plain(2), bad], 2, "addends")

    def test_words(self):
        for word in ("", "abababa", "aaaaaaaa", "A", "aB", "1", "a1", " ", "a b", "a ", "a\n", "-", "\u00e4", "a\u00df"):
            self.refused(10, [((word,), "a")], 0, "word")
            self.refused(10, [(("a",), word)], 0, "word")
            self.refused(10, [(("a", "b", "c", word), "a")], 0, "word")
            self.refused(10, [*plain(2), ((word, "a"), "a")], 2, "word")

    def test_letters_more_than_the_base(self):
        self.refused(2, [(("a", "b"), "c")], 0, "letters")
        self.refused(7, [(("abcd",), "efgh")], 0, "letters")
        self.refused(3, [(("ab",), "c"), (("c",), "d")], 1, "letters")
        self.refused(3, [(("a",), "b"), (("c",), "a"), (("a",), "bd")], 2, "letters")

    def test_letters_more_than_eight(self):
        for base in (8, 9, 10, 12):
            self.refused(base, [(("abcd", "efgh"), "i")], 0, "letters")
            self.refused(base, [(("abcd",), "efgh"), (("i",), "a")], 1, "letters")

    def test_base_ahead_of_sums(self):
        self.refused(1, [], 0, "base")
        self.refused(13, plain(4), 0, "base")

    def test_base_ahead_of_all_in_a_sum(self):
        self.refused(1, [(("a",), "b")], 0, "base")
        self.refused(0, [((), "")], 0, "base")

    def test_sums_ahead_of_all_in_a_sum(self):
        self.refused(10, [((), "")] * 4, 0, "sums")
        self.refused(2, [(("abc",), "A")] * 5, 0, "sums")

    def test_addends_ahead_of_word_and_letters(self):
        self.refused(10, [((), "")], 0, "addends")
        self.refused(10, [(("", "A", "a", "a", "a"), "a")], 0, "addends")
        self.refused(2, [(("a", "b", "c", "d", "e"), "a")], 0, "addends")

    def test_word_ahead_of_letters(self):
        self.refused(2, [(("abc", "d"), "E")], 0, "word")
        self.refused(2, [(("abcdefg",), "a")], 0, "word")

    def test_the_first_sum_that_cannot_be(self):
        self.refused(2, [(("abc",), "a"), ((), "a")], 0, "letters")
        self.refused(10, [(("",), "a"), ((), "a")], 0, "word")
        self.refused(2, [(("a",), "a"), (("abc",), "a"), (("",), "a")], 1, "letters")
        self.refused(2, [(("a",), "b"), (("",), "a"), ((), "c")], 1, "word")


class Point4(unittest.TestCase):
    """Columns, reading and the order of letters."""

    def told(self, sums, letters):
        self.assertEqual(Sheet(12, sums).letters(), list(letters))

    def test_columns_from_the_right_and_addends_ahead_of_the_total(self):
        self.told(SEND, "deynrosm")

    def test_first_addend_first(self):
        self.told([(("a", "b", "c", "d"), "e")], "abcde")
        self.told([(("d", "c", "b", "a"), "e")], "dcbae")

    def test_words_that_are_too_short(self):
        self.told([(("abc", "d", "ef"), "gh")], "cdfhbega")
        self.told([(("a",), "bcd")], "adcb")
        self.told([(("abcdef",), "g")], "fgedcba")

    def test_a_letter_is_told_once(self):
        self.told([(("aba", "ab"), "bab")], "ab")
        self.told([(("ab",), "ba")], "ba")

    def test_sum_by_sum(self):
        self.told([(("ab",), "c"), (("d", "a"), "ef"), (("gc",), "h")], "bcadfehg")

    def test_all_small_sheets(self):
        for base, sums in oracle.small_sheets():
            self.assertEqual(Sheet(base, sums).letters(), oracle.letters_of(sums), sums)


class Point5(unittest.TestCase):
    """What a word is worth, and what an answer is."""

    def test_worth(self):
        self.assertEqual(worth("send", SENT, 10), 9567)
        self.assertEqual(worth("money", SENT, 10), 10652)
        self.assertEqual(worth("a", {"a": 0}, 2), 0)
        self.assertEqual(worth("abba", {"a": 1, "b": 0}, 2), 9)
        self.assertEqual(worth("ab", {"a": 11, "b": 10, "c": 1}, 12), 142)
        self.assertEqual(worth("aaaaaa", {"a": 11}, 12), 12**6 - 1)
        self.assertEqual(worth("ab", {"a": 0, "b": 3}, 7), 3)

    def test_an_answer(self):
        self.assertIs(keeps(Sheet(10, SEND), SENT), True)

    def test_a_sum_that_is_not_so(self):
        self.assertIs(keeps(Sheet(10, SEND), {**SENT, "d": 3}), False)
        self.assertIs(keeps(Sheet(11, SEND), SENT), False)

    def test_each_sum_must_be_so(self):
        sums = [(("a", "b"), "c"), (("c",), "c"), (("a", "a"), "b")]
        self.assertIs(keeps(Sheet(10, sums), {"a": 1, "b": 2, "c": 3}), True)
        self.assertIs(keeps(Sheet(10, sums), {"a": 2, "b": 1, "c": 3}), False)
        self.assertIs(keeps(Sheet(10, sums[::-1]), {"a": 2, "b": 1, "c": 3}), False)

    def test_like_figures(self):
        self.assertIs(keeps(Sheet(10, [(("a",), "b")]), {"a": 4, "b": 4}), False)
        self.assertIs(keeps(Sheet(10, [(("a", "b"), "c")]), {"a": 0, "b": 4, "c": 4}), False)

    def test_no_word_of_two_letters_begins_with_0(self):
        self.assertIs(keeps(Sheet(10, [(("ab",), "ab")]), {"a": 0, "b": 1}), False)
        self.assertIs(keeps(Sheet(10, [(("a", "b"), "cb")]), {"a": 0, "b": 1, "c": 2}), False)
        self.assertIs(keeps(Sheet(10, [(("a", "b"), "cd")]), {"a": 1, "b": 2, "c": 0, "d": 3}), False)
        self.assertIs(keeps(Sheet(10, [(("b",), "b"), (("ab",), "ab")]), {"a": 0, "b": 1}), False)

    def test_a_word_of_one_letter_may_be_0(self):
        self.assertIs(keeps(Sheet(2, [(("a",), "a")]), {"a": 0}), True)
        self.assertIs(keeps(Sheet(10, [(("a", "bc"), "bc")]), {"a": 0, "b": 1, "c": 2}), True)
        self.assertIs(keeps(Sheet(10, [(("ba", "ba"), "ca")]), {"a": 0, "b": 1, "c": 2}), True)

    def test_figures_are_from_0_to_below_the_base(self):
        one = Sheet(4, [(("a",), "a")])
        told = [keeps(one, {"a": figure}) for figure in (-4, -1, 0, 1, 2, 3, 4, 5)]
        self.assertEqual(told, [False, False, True, True, True, True, False, False])
        self.assertIs(keeps(Sheet(4, [(("a", "b"), "c")]), {"a": 2, "b": 3, "c": 5}), False)
        self.assertIs(keeps(Sheet(4, [(("a", "b"), "c")]), {"a": -1, "b": 3, "c": 2}), False)

    def test_all_small_sheets(self):
        for base, sums in itertools.islice(oracle.small_sheets(), 0, None, 5):
            sheet = Sheet(base, sums)
            letters = sheet.letters()
            for figures in itertools.product(range(min(base, 5)), repeat=len(letters)):
                known = dict(zip(letters, figures))
                self.assertIs(keeps(sheet, known), oracle.is_answer(base, sums, known), (base, sums, known))


if __name__ == "__main__":
    unittest.main()
