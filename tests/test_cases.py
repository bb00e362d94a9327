"""Points 6 to 8: the kinds of cases, the table that reading makes, its answers and its size."""

import unittest

from tests import oracle
from wordsums.cases import answers, size_of, table_of
from wordsums.sheets import Sheet, keeps

ANSWER = ("answer",)

# Tables worked out by hand: (base, sums, table, size, answers).
BY_HAND = (
    # A word of one letter that is 0, and a letter that stands in an addend and in the total.
    (2, [(("a",), "a")], ("cases", "a", ((0, ANSWER), (1, ANSWER))), 3, [(0,), (1,)]),
    # No answer: unlike letters, like figures.
    (2, [(("a",), "b")], ("cases", "a", ((0, ("taken", 0, 0)), (1, ("taken", 0, 0)))), 3, []),
    # Behind the last column something is carried.
    (
        2,
        [(("a", "a"), "b")],
        ("cases", "a", ((0, ("taken", 0, 0)), (1, ("so", 0, 0, ("over", 0))))),
        4,
        [],
    ),
    # The carried 1 is what a letter stands for that is known.
    (2, [(("a", "a"), "ab")], ("cases", "a", ((1, ("so", 0, 0, ANSWER)),)), 3, [(1, 0)]),
    # The same word in an addend and the total: its column is passed, or off, without a case of its own.
    (
        3,
        [(("a", "b"), "b")],
        (
            "cases",
            "a",
            (
                (0, ("cases", "b", ((1, ANSWER), (2, ANSWER)))),
                (1, ("cases", "b", ((0, ("off", 0, 0)), (2, ("off", 0, 0))))),
                (2, ("cases", "b", ((0, ("off", 0, 0)), (1, ("off", 0, 0))))),
            ),
        ),
        10,
        [(0, 1), (0, 2)],
    ),
    # No figure is free for a letter: 0 is not, as a word begins with it, and all others stand already.
    (
        3,
        [(("ab", "ab"), "c")],
        (
            "cases",
            "b",
            (
                (0, ("taken", 0, 0)),
                (1, ("so", 0, 0, ("cases", "a", ()))),
                (2, ("so", 0, 0, ("cases", "a", ()))),
            ),
        ),
        6,
        [],
    ),
    # A total that is shorter than an addend: where it isn't there, a column must end on 0.
    (
        4,
        [(("ab", "b"), "c")],
        (
            "cases",
            "b",
            (
                (0, ("taken", 0, 0)),
                (1, ("so", 0, 0, ("cases", "a", ((3, ("off", 0, 1)),)))),
                (2, ("so", 0, 0, ("cases", "a", ((1, ("off", 0, 1)), (3, ("over", 0)))))),
                (3, ("so", 0, 0, ("cases", "a", ((1, ("off", 0, 1)),)))),
            ),
        ),
        12,
        [],
    ),
    # A total that is longer than the addends; its first letter stands in the total alone, and isn't 0.
    (
        4,
        [(("a", "a"), "bc")],
        (
            "cases",
            "a",
            (
                (0, ("taken", 0, 0)),
                (1, ("so", 0, 0, ("taken", 0, 1))),
                (2, ("so", 0, 0, ("so", 0, 1, ANSWER))),
                (3, ("so", 0, 0, ("so", 0, 1, ANSWER))),
            ),
        ),
        10,
        [(2, 0, 1), (3, 2, 1)],
    ),
    # Two sums: what the first one made known is known in the second.
    (
        4,
        [(("a", "b"), "c"), (("c", "a"), "b")],
        (
            "cases",
            "a",
            (
                (0, ("cases", "b", ((1, ("taken", 0, 0)), (2, ("taken", 0, 0)), (3, ("taken", 0, 0))))),
                (
                    1,
                    (
                        "cases",
                        "b",
                        (
                            (0, ("taken", 0, 0)),
                            (2, ("so", 0, 0, ("off", 1, 0))),
                            (3, ("so", 0, 0, ("over", 0))),
                        ),
                    ),
                ),
                (
                    2,
                    (
                        "cases",
                        "b",
                        (
                            (0, ("taken", 0, 0)),
                            (1, ("so", 0, 0, ("over", 1))),
                            (3, ("so", 0, 0, ("over", 0))),
                        ),
                    ),
                ),
                (
                    3,
                    (
                        "cases",
                        "b",
                        (
                            (0, ("taken", 0, 0)),
                            (1, ("so", 0, 0, ("over", 0))),
                            (2, ("so", 0, 0, ("over", 0))),
                        ),
                    ),
                ),
            ),
        ),
        23,
        [],
    ),
    # Three sums, and the last of them alone finds a letter of the total's.
    (
        2,
        [(("a",), "a"), (("a", "a"), "a"), (("a",), "ba")],
        ("cases", "a", ((0, ("taken", 2, 1)), (1, ("off", 1, 0)))),
        3,
        [],
    ),
    # Four addends, more than the base is carried, and no place where anything is to be chosen.
    (2, [(("aa", "aa", "aa", "aa"), "aabb")], ("cases", "a", ((1, ("so", 0, 0, ANSWER)),)), 3, [(1, 0)]),
    # More than the base is carried on behind the last column.
    (2, [(("aa", "aa", "aa", "aa"), "b")], ("cases", "a", ((1, ("so", 0, 0, ("over", 0))),)), 3, []),
)


class Point6(unittest.TestCase):
    """Each case of a table is one of those that point 6 lists."""

    def test_each_case_is_as_it_must_be_and_no_answer_is_left_out(self):
        for base, sums in oracle.small_sheets():
            shown = oracle.shown(base, sums, table_of(Sheet(base, sums)))
            self.assertEqual(shown, oracle.all_answers(base, sums), (base, sums))

    def test_bases_2_and_12(self):
        for base, sums in (
            (2, [(("ab", "ab"), "abb")]),
            (2, [(("ab", "ab", "b", "b"), "abb")]),
            (12, [(("ab", "a"), "ca")]),
            (12, [(("aa", "bb"), "cab")]),
        ):
            table = table_of(Sheet(base, sums))
            self.assertEqual(oracle.shown(base, sums, table), oracle.all_answers(base, sums), (base, sums))

    def test_eight_letters_as_many_as_the_base(self):
        sums = [(("ab", "cd"), "efg"), (("h",), "h")]
        shown = oracle.shown(8, sums, table_of(Sheet(8, sums)))
        self.assertEqual(shown, oracle.all_answers(8, sums))

    def test_figures_of_a_row_rise_and_0_stands_for_no_first_letter(self):
        kind, letter, rows = table_of(Sheet(12, [(("a",), "a")]))
        self.assertEqual((kind, letter, [figure for figure, _ in rows]), ("cases", "a", list(range(12))))
        kind, letter, rows = table_of(Sheet(12, [(("ab",), "ab"), (("ba",), "ba")]))
        self.assertEqual((kind, letter, [figure for figure, _ in rows]), ("cases", "b", list(range(1, 12))))

    def test_0_is_not_free_by_a_word_in_a_later_sum(self):
        table = table_of(Sheet(3, [(("a",), "b"), (("ac",), "ac")]))
        self.assertEqual([figure for figure, _ in table[2]], [1, 2])
        self.assertEqual(table_of(Sheet(2, [(("a", "a"), "b"), (("a",), "ba")]))[2][1][1], ("taken", 0, 0))


class Point7(unittest.TestCase):
    """The table that reading makes, and the answers in its order."""

    def test_tables_by_hand(self):
        for base, sums, table, _, _ in BY_HAND:
            self.assertEqual(table_of(Sheet(base, sums)), table, (base, sums))

    def test_answers_by_hand(self):
        for base, sums, _, _, told in BY_HAND:
            self.assertEqual(answers(Sheet(base, sums)), told, (base, sums))

    def test_tables_of_all_small_sheets(self):
        for base, sums in oracle.small_sheets():
            self.assertEqual(table_of(Sheet(base, sums)), oracle.table_by_reading(base, sums), (base, sums))

    def test_answers_of_all_small_sheets(self):
        for base, sums in oracle.small_sheets():
            self.assertEqual(answers(Sheet(base, sums)), oracle.all_answers(base, sums), (base, sums))

    def test_send_more_money(self):
        sheet = Sheet(10, [(("send", "more"), "money")])
        self.assertEqual(answers(sheet), [(7, 5, 2, 6, 8, 0, 9, 1)])
        self.assertEqual(table_of(sheet), oracle.table_by_reading(10, sheet.sums()))

    def test_words_of_six_letters(self):
        sheet = Sheet(10, [(("abcdef",), "abcdef")])
        self.assertEqual(len(answers(sheet)), 9 * 9 * 8 * 7 * 6 * 5)
        sheet = Sheet(2, [(("aaaaaa", "aaaaaa"), "aaaaab")])
        self.assertEqual(table_of(sheet), ("cases", "a", ((1, ("so", 0, 0, ("over", 0))),)))

    def test_many_answers_in_the_tables_order(self):
        sheet = Sheet(12, [(("a", "b"), "c")])
        told = [(a, b, a + b) for a in range(1, 12) for b in range(1, 12 - a) if a != b]
        self.assertEqual(answers(sheet), told)

    def test_each_answer_keeps_the_sheet(self):
        sheet = Sheet(9, [(("ab", "bc", "c"), "de"), (("c", "f"), "b")])
        told = answers(sheet)
        self.assertTrue(told)
        for answer in told:
            self.assertTrue(keeps(sheet, dict(zip(sheet.letters(), answer))))

    def test_kinds(self):
        sheet = Sheet(4, [(("a", "a"), "bc")])
        self.assertIs(type(table_of(sheet)), tuple)
        self.assertIs(type(answers(sheet)), list)
        self.assertTrue(all(type(answer) is tuple for answer in answers(sheet)))


class Point8(unittest.TestCase):
    """How many cases a table has."""

    def test_each_kind_of_case(self):
        for case in (ANSWER, ("over", 0), ("off", 0, 0), ("taken", 0, 0)):
            self.assertEqual(size_of(case), 1)
            self.assertEqual(size_of(("so", 0, 0, case)), 2)
            self.assertEqual(size_of(("cases", "a", ((0, case), (1, case)))), 3)
        self.assertEqual(size_of(("cases", "a", ())), 1)

    def test_sizes_by_hand(self):
        for base, sums, table, size, _ in BY_HAND:
            self.assertEqual(size_of(table), size, (base, sums))

    def test_sizes_of_all_small_sheets(self):
        for base, sums in oracle.small_sheets():
            table = table_of(Sheet(base, sums))
            self.assertEqual(size_of(table), oracle.cases_in(table), (base, sums))

    def test_a_table_that_reading_does_not_make(self):
        table = ("cases", "b", ((0, ("cases", "a", ((1, ("off", 0, 0)),))), (1, ("so", 0, 1, ("so", 0, 0, ANSWER)))))
        self.assertEqual(size_of(table), 6)


if __name__ == "__main__":
    unittest.main()
