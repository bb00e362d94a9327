"""Point 10: how many answers there are."""

import itertools
import random
import unittest

from tests import oracle
from wordsums.cases import answers
from wordsums.counting import how_many
from wordsums.sheets import Sheet


class Point10(unittest.TestCase):
    def test_by_hand(self):
        for base, sums, count in (
            (2, [(("a",), "b")], 0),
            (2, [(("a", "a"), "ab")], 1),
            (4, [(("a", "a"), "bc")], 2),
            (10, [(("send", "more"), "money")], 1),
            (3, [(("a",), "a")], 3),
            (3, [(("aa",), "aa")], 2),
            (3, [(("a",), "a"), (("b",), "b")], 6),
            (3, [(("a", "b"), "b")], 2),
            (3, [(("a", "b"), "c")], 0),
        ):
            told = how_many(Sheet(base, sums))
            self.assertEqual(told, count, (base, sums))
            self.assertIs(type(told), int)

    def test_sums_that_are_always_so(self):
        # Then each way of giving unlike figures counts, but for 0 for the first letter.
        self.assertEqual(how_many(Sheet(12, [(("abcdef",), "abcdef")])), 11 * 11 * 10 * 9 * 8 * 7)
        # 0 is one of the other six letters.
        sums = [(("a",), "a"), (("bcd",), "bcd"), (("efgh",), "efgh")]
        self.assertEqual(how_many(Sheet(8, sums)), 6 * 7 * 6 * 5 * 4 * 3 * 2)

    def test_the_letters_behind_a_sum_that_is_not_so(self):
        self.assertEqual(how_many(Sheet(6, [(("a", "b"), "c"), (("d",), "e")])), 0)

    def test_one_column_in_base_12(self):
        count = sum(1 for a, b in itertools.permutations(range(1, 12), 2) if a + b < 12)
        self.assertEqual(how_many(Sheet(12, [(("a", "b"), "c")])), count)
        told = itertools.permutations(range(12), 4)
        count = sum(1 for figures in told if sum(figures) < 12 and sum(figures) not in figures)
        self.assertEqual(how_many(Sheet(12, [(("a", "b", "c", "d"), "e")])), count)

    def test_all_small_sheets(self):
        for base, sums in oracle.small_sheets():
            self.assertEqual(how_many(Sheet(base, sums)), len(oracle.all_answers(base, sums)), (base, sums))

    def test_as_many_as_the_answers_that_are_told(self):
        for base, sums in (
            (12, [(("abcd", "efgh"), "hgfe")]),
            (12, [(("a", "b", "c", "d"), "ef"), (("gh", "h"), "gg")]),
            (12, [(("a", "b", "c", "d"), "ef"), (("g", "h"), "ab")]),
            (9, [(("ab", "bc", "c"), "de"), (("c", "f"), "b")]),
            (10, [(("abab", "baba"), "cccc"), (("c", "d"), "ef"), (("f",), "f")]),
            (11, [(("two", "two"), "four")]),
        ):
            sheet = Sheet(base, sums)
            self.assertEqual(how_many(sheet), len(answers(sheet)), (base, sums))

    def test_as_many_as_the_answers_of_sheets_made_at_random(self):
        chance = random.Random(3)
        for _ in range(150):
            base = chance.randint(2, 9)
            letters = "abcdefgh"[: min(base, 6)]
            words = ["".join(chance.choice(letters) for _ in range(chance.randint(1, 6))) for _ in range(9)]
            sums = [(tuple(words[at : at + chance.randint(1, 2)]), words[at + 2]) for at in (0, 3, 6)]
            sums = sums[: chance.randint(1, 3)]
            sheet = Sheet(base, sums)
            self.assertEqual(how_many(sheet), len(answers(sheet)), (base, sums))


if __name__ == "__main__":
    unittest.main()
