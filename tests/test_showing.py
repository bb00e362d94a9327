"""Point 6, its last sentence: whether a table shows that its answers are all."""

import random
import unittest

from tests import oracle
from wordsums.cases import answers, table_of
from wordsums.sheets import Sheet
from wordsums.showing import shows

ANSWER = ("answer",)


def cases(letter, *rows):
    return ("cases", letter, rows)


def so(at, place, case):
    return ("so", at, place, case)


def taken(at, place):
    return ("taken", at, place)


def off(at, place):
    return ("off", at, place)


def over(at):
    return ("over", at)


def parts_of(table, path=()):
    """All cases of a table, itself ahead, each with the way to it (rows' places, or 3 for what is in so)."""
    yield path, table
    if table[0] == "cases":
        for turn, (_, inner) in enumerate(table[2]):
            yield from parts_of(inner, (*path, turn))
    elif table[0] == "so":
        yield from parts_of(table[3], (*path, 3))


def with_part(table, path, part):
    """A table with another case in one place."""
    if not path:
        return part
    if table[0] == "so":
        return (*table[:3], with_part(table[3], path[1:], part))
    rows = list(table[2])
    figure, inner = rows[path[0]]
    rows[path[0]] = (figure, with_part(inner, path[1:], part))
    return (*table[:2], tuple(rows))


class Tables(unittest.TestCase):
    """Tables that show all answers."""

    def shown(self, base, sums, table, told):
        self.assertEqual(shows(Sheet(base, sums), table), told)
        self.assertEqual(sorted(told), oracle.all_answers(base, sums))

    def test_the_table_that_reading_makes(self):
        for base, sums in oracle.small_sheets():
            sheet = Sheet(base, sums)
            self.assertEqual(shows(sheet, table_of(sheet)), answers(sheet), (base, sums))
        sheet = Sheet(10, [(("send", "more"), "money")])
        self.assertEqual(shows(sheet, table_of(sheet)), [(7, 5, 2, 6, 8, 0, 9, 1)])

    def test_letters_asked_in_another_order(self):
        sums = [(("a",), "a"), (("b",), "b")]
        table = cases(
            "b",
            (0, cases("a", (1, ANSWER), (2, ANSWER))),
            (1, cases("a", (0, ANSWER), (2, ANSWER))),
            (2, cases("a", (0, ANSWER), (1, ANSWER))),
        )
        self.shown(3, sums, table, [(1, 0), (2, 0), (0, 1), (2, 1), (0, 2), (1, 2)])

    def test_an_order_that_is_not_the_same_in_all_rows(self):
        sums = [(("a", "b"), "b"), (("c",), "c")]
        table = cases(
            "c",
            (0, cases("a", (1, cases("b", (2, off(0, 0)))), (2, cases("b", (1, off(0, 0)))))),
            (1, cases("b", (0, cases("a", (2, over(0)))), (2, cases("a", (0, ANSWER))))),
            (2, cases("a", (0, cases("b", (1, ANSWER))), (1, cases("b", (0, over(0)))))),
        )
        self.shown(3, sums, table, [(0, 2, 1), (0, 1, 2)])

    def test_the_totals_letter_asked_as_cases(self):
        sums = [(("a", "a"), "ab")]
        self.shown(2, sums, cases("b", (0, cases("a", (1, ANSWER))), (1, cases("a"))), [(1, 0)])
        self.shown(2, sums, cases("a", (1, cases("b", (0, ANSWER)))), [(1, 0)])

    def test_a_later_sum_first(self):
        sums = [(("a", "b"), "c"), (("b",), "a")]
        self.shown(3, sums, cases("b", *[(figure, taken(1, 0)) for figure in range(3)]), [])

    def test_so_in_a_later_sum_first(self):
        sums = [(("a", "a"), "b"), (("a",), "cd")]
        table = cases("a", *[(figure, taken(1, 0)) for figure in range(4)])
        self.shown(4, sums, table, [])
        sums = [(("a", "b"), "c"), (("a", "a"), "b")]
        table = cases(
            "a",
            (0, taken(1, 0)),
            (1, so(1, 0, so(0, 0, ANSWER))),
            (2, so(1, 0, over(1))),
            (3, so(1, 0, so(0, 0, over(0)))),
        )
        self.shown(4, sums, table, [(1, 2, 3)])

    def test_over_and_off_ahead_of_their_turn(self):
        # All letters of the sum are known: over may be told where off may, and off by any column that is so.
        sums = [(("ab", "b"), "c")]
        for end in (over(0), off(0, 1)):
            table = cases(
                "b",
                (0, taken(0, 0)),
                (1, so(0, 0, cases("a", (3, end)))),
                (2, so(0, 0, cases("a", (1, end), (3, over(0))))),
                (3, so(0, 0, cases("a", (1, end)))),
            )
            self.shown(4, sums, table, [])

    def test_off_by_a_column_behind_the_one_that_is_off(self):
        # 1 is not 2, nor is 11 the 22 that is all of the columns 0 and 1.
        table = cases("a", (1, cases("b", (2, off(0, 1)))), (2, cases("b", (1, off(0, 1)))))
        self.shown(3, [(("aa",), "bb")], table, [])

    def test_a_letter_for_which_no_figure_is_free(self):
        table = cases("b", (0, taken(0, 0)), (1, so(0, 0, cases("a"))), (2, so(0, 0, cases("a"))))
        self.shown(3, [(("ab", "ab"), "c")], table, [])
        self.shown(2, [(("ab",), "ab")], cases("b", (0, cases("a", (1, ANSWER))), (1, cases("a"))), [(0, 1)])

    def test_so_with_what_is_carried_and_0_for_a_first_letter(self):
        sums = [(("a", "a"), "bc")]
        table = cases(
            "a",
            (0, taken(0, 0)),
            (1, so(0, 0, taken(0, 1))),
            (2, so(0, 0, so(0, 1, ANSWER))),
            (3, so(0, 0, so(0, 1, ANSWER))),
        )
        self.shown(4, sums, table, [(2, 0, 1), (3, 2, 1)])

    def test_the_second_letter_of_the_total_where_the_first_was_asked(self):
        sums = [(("a", "a"), "bc")]
        table = cases(
            "c",
            (0, cases("a", (1, off(0, 0)), (2, so(0, 1, ANSWER)), (3, off(0, 0)))),
            (1, cases("a", (0, off(0, 0)), (2, off(0, 0)), (3, off(0, 0)))),
            (2, cases("a", (0, off(0, 0)), (1, taken(0, 1)), (3, so(0, 1, ANSWER)))),
            (3, cases("a", (0, off(0, 0)), (1, off(0, 0)), (2, off(0, 0)))),
        )
        self.shown(4, sums, table, [(2, 0, 1), (3, 2, 1)])

    def test_the_answers_are_in_the_letters_order_and_a_list(self):
        told = shows(Sheet(2, [(("a", "a"), "ab")]), cases("b", (0, cases("a", (1, ANSWER))), (1, cases("a"))))
        self.assertIs(type(told), list)
        self.assertTrue(all(type(answer) is tuple for answer in told))
        self.assertEqual(told, [(1, 0)])
        self.assertEqual(shows(Sheet(2, [(("a",), "b")]), cases("a", (0, taken(0, 0)), (1, taken(0, 0)))), [])

    def test_tables_that_are_made_at_random(self):
        chance = random.Random(1)
        for base, sums in list(oracle.small_sheets())[::7]:
            table = oracle.any_table(base, sums, chance.choice)
            told = shows(Sheet(base, sums), table)
            self.assertEqual(told, oracle.shown(base, sums, table), (base, sums, table))
            self.assertEqual(sorted(told), oracle.all_answers(base, sums), (base, sums, table))


class NoTables(unittest.TestCase):
    """What is no table: each part of point 6's list broken once."""

    def refused(self, base, sums, table):
        self.assertIsNone(shows(Sheet(base, sums), table), (base, sums, table))
        self.assertIsNone(oracle.shown(base, sums, table), (base, sums, table))

    def test_a_letter_that_is_not_the_sheets(self):
        for letter in ("b", "", "aa", "A"):
            self.refused(2, [(("a",), "a")], cases(letter, (0, ANSWER), (1, ANSWER)))
            self.refused(2, [(("a",), "a")], cases("a", (0, cases(letter, (1, ANSWER))), (1, ANSWER)))

    def test_a_letter_that_is_known(self):
        self.refused(2, [(("a",), "a")], cases("a", (0, cases("a", (1, ANSWER))), (1, ANSWER)))
        self.refused(2, [(("a",), "a")], cases("a", (0, cases("a")), (1, ANSWER)))
        sums = [(("a", "a"), "ab")]
        self.refused(2, sums, cases("a", (1, so(0, 0, cases("b", (0, ANSWER))))))
        self.refused(2, sums, cases("a", (1, so(0, 0, cases("b")))))

    def test_rows(self):
        sums = [(("a", "b"), "b")]
        zero = cases("b", (1, ANSWER), (2, ANSWER))
        one = cases("b", (0, off(0, 0)), (2, off(0, 0)))
        two = cases("b", (0, off(0, 0)), (1, off(0, 0)))
        self.assertEqual(shows(Sheet(3, sums), cases("a", (0, zero), (1, one), (2, two))), [(0, 1), (0, 2)])
        for rows in (
            # One left out, at each place; all left out.
            [(1, one), (2, two)],
            [(0, zero), (2, two)],
            [(0, zero), (1, one)],
            [],
            # Two exchanged, or one doubled.
            [(1, one), (0, zero), (2, two)],
            [(0, zero), (2, two), (1, one)],
            [(2, two), (1, one), (0, zero)],
            [(0, zero), (0, zero), (1, one), (2, two)],
            [(0, zero), (1, one), (2, two), (2, two)],
            [(0, zero), (1, one), (1, one)],
            # One too much, that is no figure of this base.
            [(0, zero), (1, one), (2, two), (3, over(0))],
            [(-1, over(0)), (0, zero), (1, one), (2, two)],
            # The cases exchanged.
            [(0, one), (1, zero), (2, two)],
        ):
            self.refused(3, sums, cases("a", *rows))

    def test_a_row_for_a_figure_that_another_letter_stands_for(self):
        sums = [(("a",), "a"), (("b",), "b")]
        self.refused(2, sums, cases("a", (0, cases("b", (0, ANSWER), (1, ANSWER))), (1, cases("b", (0, ANSWER)))))
        self.refused(2, sums, cases("a", (0, cases("b", (0, ANSWER))), (1, cases("b", (0, ANSWER)))))

    def test_a_row_for_0_for_a_first_letter(self):
        sums = [(("aa",), "aa")]
        self.assertEqual(shows(Sheet(2, sums), cases("a", (1, ANSWER))), [(1,)])
        self.refused(2, sums, cases("a", (0, ANSWER), (1, ANSWER)))
        self.refused(2, sums, cases("a", (0, ANSWER)))
        # A word in a later sum begins with it.
        self.refused(2, [(("a",), "a"), (("aa",), "aa")], cases("a", (0, ANSWER), (1, ANSWER)))

    def test_rows_that_are_no_pairs(self):
        sums = [(("a",), "a")]
        for row in ((), (0,), (0, ANSWER, ANSWER)):
            self.refused(2, sums, cases("a", row, (1, ANSWER)))

    def test_so_ahead_of_an_addends_letter(self):
        sums = [(("a", "b"), "c")]
        self.refused(3, sums, so(0, 0, ANSWER))
        self.refused(3, sums, cases("a", *[(figure, so(0, 0, cases("b"))) for figure in range(3)]))
        self.refused(3, sums, cases("a", *[(figure, taken(0, 0)) for figure in range(3)]))

    def test_so_ahead_of_a_letter_in_an_earlier_column(self):
        # a is known, and alone in column 1: but b and c are not, in column 0.
        sums = [(("ab",), "dc")]
        for end in (so(0, 1, ANSWER), taken(0, 1)):
            self.refused(5, sums, cases("a", *[(figure, end) for figure in range(1, 5)]))
        # b is known, too, but the total's c in column 0 is not.
        inner = [cases("b", *[(f, taken(0, 1)) for f in range(5) if f != figure]) for figure in range(1, 5)]
        self.refused(5, sums, cases("a", *list(zip(range(1, 5), inner))))

    def test_so_for_a_letter_that_stands_at_another_place_there_too(self):
        # In an addend of the same column; a + a is a by 0 alone, and yet a is an addend's letter that isn't known.
        self.refused(2, [(("a",), "a")], so(0, 0, ANSWER))
        self.refused(2, [(("a", "a"), "a")], so(0, 0, ANSWER))
        self.refused(3, [(("a", "a"), "a")], so(0, 0, ANSWER))
        # In the total's column ahead.
        sums = [(("b", "b"), "aa")]
        for end in (so(0, 1, ANSWER), taken(0, 1)):
            self.refused(3, sums, cases("b", *[(figure, end) for figure in range(3)]))
        # In an addend's column ahead.
        self.refused(2, [(("a", "b"), "ab")], cases("b", (0, so(0, 1, ANSWER)), (1, so(0, 1, ANSWER))))

    def test_so_and_taken_for_a_letter_that_is_known(self):
        sums = [(("a", "a"), "ab")]
        self.assertEqual(shows(Sheet(2, sums), cases("a", (1, so(0, 0, ANSWER)))), [(1, 0)])
        self.refused(2, sums, cases("a", (1, so(0, 0, so(0, 0, ANSWER)))))
        self.refused(2, sums, cases("a", (1, so(0, 0, so(0, 1, ANSWER)))))
        self.refused(2, sums, cases("a", (1, so(0, 0, taken(0, 1)))))
        self.refused(2, sums, cases("a", (1, so(0, 0, taken(0, 0)))))

    def test_so_for_a_figure_that_is_not_free_and_taken_for_one_that_is(self):
        sums = [(("a", "a"), "b")]
        rows = [taken(0, 0), so(0, 0, ANSWER), so(0, 0, over(0))]
        self.assertEqual(shows(Sheet(3, sums), cases("a", *enumerate(rows))), [(1, 2)])
        self.refused(3, sums, cases("a", *enumerate([so(0, 0, ANSWER), *rows[1:]])))
        self.refused(3, sums, cases("a", *enumerate([so(0, 0, cases("b")), *rows[1:]])))
        self.refused(3, sums, cases("a", *enumerate([rows[0], taken(0, 0), rows[2]])))
        self.refused(3, sums, cases("a", *enumerate([*rows[:2], taken(0, 0)])))
        # 0 for a letter with which a word begins.
        self.refused(2, [(("a",), "ba")], cases("a", (0, so(0, 1, ANSWER)), (1, taken(0, 1))))

    def test_so_behind_columns_that_are_off(self):
        # In column 0 the ends differ; so no figure in column 1 makes them alike.
        sums = [(("aa",), "bc"), (("c",), "c")]
        inner = {f: [c for c in range(3) if c != f] for f in (1, 2)}
        for end in (so(0, 1, over(0)), taken(0, 1)):
            table = cases("a", *[(f, cases("c", *[(c, end) for c in inner[f]])) for f in (1, 2)])
            self.refused(3, sums, table)
        table = cases("a", *[(f, cases("c", *[(c, off(0, 0)) for c in inner[f]])) for f in (1, 2)])
        self.assertEqual(shows(Sheet(3, sums), table), [])

    def test_so_where_the_total_has_no_letter(self):
        sums = [(("ba",), "c")]
        rows = [(figure, so(0, 0, cases("b"))) for figure in range(2)]
        self.refused(3, sums, cases("a", *rows))
        for end in (so(0, 1, ANSWER), taken(0, 1), so(0, -1, ANSWER), taken(0, -1)):
            self.refused(2, [(("aa",), "b")], cases("a", (1, end)))

    def test_columns_and_sums_that_are_not_there(self):
        sums = [(("a",), "b")]
        self.assertEqual(shows(Sheet(2, sums), cases("a", (0, taken(0, 0)), (1, taken(0, 0)))), [])
        for at, place in ((0, 1), (0, -1), (1, 0), (-1, 0), (0, 6), (7, 0), (-1, -1)):
            for end in (taken(at, place), so(at, place, over(0)), off(at, place)):
                self.refused(2, sums, cases("a", (0, end), (1, taken(0, 0))))
        both = cases("a", (0, cases("b", (1, over(0)))), (1, cases("b", (0, over(0)))))
        self.assertEqual(shows(Sheet(2, sums), both), [])
        for end in (over(1), over(-1), off(0, 1), off(0, 2), off(0, -1), off(-1, 0), off(1, 0)):
            table = cases("a", (0, cases("b", (1, end))), (1, cases("b", (0, over(0)))))
            self.refused(2, sums, table)

    def test_off_too_early(self):
        sums = [(("a", "b"), "b")]
        self.refused(3, sums, off(0, 0))
        self.refused(3, sums, cases("a", *[(figure, off(0, 0)) for figure in range(3)]))
        # The total's letter is not known.
        self.refused(3, [(("a",), "b")], cases("a", *[(figure, off(0, 0)) for figure in range(3)]))
        # A letter of an earlier column is not known.
        self.refused(3, [(("ba",), "b")], cases("b", (1, off(0, 1)), (2, off(0, 1))))

    def test_off_where_the_column_ends_as_it_must(self):
        sums = [(("a", "b"), "b")]
        one = cases("b", (0, off(0, 0)), (2, off(0, 0)))
        two = cases("b", (0, off(0, 0)), (1, off(0, 0)))
        self.refused(3, sums, cases("a", (0, cases("b", (1, off(0, 0)), (2, ANSWER))), (1, one), (2, two)))
        # All is known and the sum is not so: but in the columns 0 to place the ends are alike.
        self.refused(2, [(("a", "a"), "b")], cases("a", (0, taken(0, 0)), (1, so(0, 0, off(0, 0)))))
        self.refused(2, [(("aa",), "a")], cases("a", (1, off(0, 0))))
        self.assertEqual(shows(Sheet(2, [(("aa",), "a")]), cases("a", (1, off(0, 1)))), [])

    def test_over_too_early(self):
        self.refused(2, [(("a", "a"), "b")], over(0))
        self.refused(2, [(("a", "a"), "b")], cases("a", (0, taken(0, 0)), (1, over(0))))
        self.refused(2, [(("aa", "aa"), "ab")], cases("a", (1, over(0))))

    def test_over_where_the_sum_is_so(self):
        self.refused(2, [(("a",), "a")], cases("a", (0, over(0)), (1, ANSWER)))
        # The other sum is not so.
        sums = [(("a",), "a"), (("a", "a"), "a")]
        self.assertEqual(shows(Sheet(2, sums), cases("a", (0, ANSWER), (1, over(1)))), [(0,)])
        self.refused(2, sums, cases("a", (0, ANSWER), (1, over(0))))

    def test_answer_too_early(self):
        self.refused(2, [(("a",), "a")], ANSWER)
        sums = [(("a",), "a"), (("b",), "b")]
        self.refused(2, sums, cases("a", (0, ANSWER), (1, cases("b", (0, ANSWER)))))
        self.refused(2, [(("a", "a"), "ab")], cases("a", (1, ANSWER)))

    def test_answer_where_a_sum_is_not_so(self):
        self.refused(2, [(("a",), "b")], cases("a", (0, cases("b", (1, ANSWER))), (1, cases("b", (0, ANSWER)))))
        self.refused(2, [(("a", "a"), "b")], cases("a", (0, taken(0, 0)), (1, so(0, 0, ANSWER))))
        self.refused(2, [(("a",), "a"), (("a", "a"), "a")], cases("a", (0, ANSWER), (1, ANSWER)))
        self.refused(2, [(("a", "a"), "a"), (("a",), "a")], cases("a", (0, ANSWER), (1, ANSWER)))

    def test_forms_that_no_case_has(self):
        sums = [(("a",), "a")]
        for end in (
            (),
            ("maybe",),
            ("answer", 0),
            ("over",),
            ("over", 0, 0),
            ("off", 0),
            ("off", 0, 0, 0),
            ("taken", 0),
            ("taken", 0, 0, ANSWER),
            ("so", 0, 0),
            ("so", 0, 0, ANSWER, ANSWER),
            ("cases", "a"),
            ("cases", "a", (), ()),
            ("Answer",),
        ):
            self.refused(2, sums, end)
            self.refused(2, sums, cases("a", (0, end), (1, ANSWER)))
            self.refused(2, sums, cases("a", (0, ANSWER), (1, end)))

    def test_one_case_broken_in_a_table_that_is_made_at_random(self):
        chance = random.Random(2)
        told = {True: 0, False: 0}
        for base, sums in list(oracle.small_sheets())[::9]:
            sheet = Sheet(base, sums)
            for table in (table_of(sheet), oracle.any_table(base, sums, chance.choice)):
                for _ in range(6):
                    broken = self.broken(table, sheet, chance)
                    want = oracle.shown(base, sums, broken)
                    self.assertEqual(shows(sheet, broken), want, (base, sums, broken))
                    told[want is None] += 1
        self.assertGreater(min(told.values()), 100)

    def broken(self, table, sheet, chance):
        """A table with one of its cases made another one."""
        path, case = chance.choice(list(parts_of(table)))
        at, place = chance.randint(-1, len(sheet.sums())), chance.randint(-1, 3)
        parts = [off(at, place), taken(at, place), over(at), so(at, place, case), ANSWER]
        if case[0] == "cases" and case[2]:
            rows = list(case[2])
            turn = chance.randrange(len(rows))
            parts.append(cases(case[1], *rows[:turn], *rows[turn + 1 :]))
            parts.append(cases(case[1], *rows[turn:], *rows[:turn]))
            parts.append(cases(chance.choice(sheet.letters()), *rows))
        if case[0] == "so":
            parts += [case[3], so(at, place, case[3])]
        return with_part(table, path, chance.choice(parts))


if __name__ == "__main__":
    unittest.main()
