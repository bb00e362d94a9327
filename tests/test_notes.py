"""Point 14: sheets as texts."""

import unittest

from tests import oracle
from wordsums.errors import BadSheet, BadText
from wordsums.notes import read, written
from wordsums.sheets import Sheet

GOOD = "base 10\nsend + more = money\na = a"


class Point14(unittest.TestCase):
    def refused_row(self, text, row):
        with self.assertRaises(BadText, msg=repr(text)) as caught:
            read(text)
        self.assertEqual(caught.exception.row, row, repr(text))

    def refused_sheet(self, text, at, why):
        with self.assertRaises(BadSheet, msg=repr(text)) as caught:
            read(text)
        self.assertEqual((caught.exception.at, caught.exception.why), (at, why), repr(text))

    def told(self, text):
        sheet = read(text)
        self.assertIsInstance(sheet, Sheet)
        return sheet.base, sheet.sums()

    def test_written(self):
        sums = [(("send", "more"), "money")]
        self.assertEqual(written(Sheet(10, sums)), "base 10\nsend + more = money")
        sums = [(("a",), "b"), (("a", "b", "a", "b"), "ab")]
        self.assertEqual(written(Sheet(2, sums)), "base 2\na = b\na + b + a + b = ab")
        sums = [(("abcdef",), "a"), (("a", "b", "c"), "h"), (("g", "a"), "g")]
        self.assertEqual(written(Sheet(12, sums)), "base 12\nabcdef = a\na + b + c = h\ng + a = g")

    def test_read(self):
        self.assertEqual(self.told("base 2\na = b"), (2, [(("a",), "b")]))
        self.assertEqual(self.told("base 10\nsend + more = money"), (10, [(("send", "more"), "money")]))
        sums = [(("a", "b", "a", "b"), "abcdef"), (("zz",), "z"), (("a", "a"), "a")]
        self.assertEqual(self.told("base 12\na + b + a + b = abcdef\nzz = z\na + a = a"), (12, sums))

    def test_kinds(self):
        sheet = read("base 7\na + b = c")
        self.assertIs(type(sheet.base), int)
        self.assertIs(type(sheet.sums()), list)
        addends, total = sheet.sums()[0]
        self.assertEqual((type(sheet.sums()[0]), type(addends), type(total)), (tuple, tuple, str))
        self.assertIs(type(written(sheet)), str)

    def test_what_is_written_is_read_to_the_same_sheet(self):
        for base, sums in oracle.small_sheets():
            sheet = Sheet(base, sums)
            text = written(sheet)
            self.assertEqual(self.told(text), (base, sums))
            self.assertEqual(written(read(text)), text)
        for base in range(2, 13):
            self.assertEqual(self.told(written(Sheet(base, [(("a",), "a")]))), (base, [(("a",), "a")]))

    def test_the_first_bad_row(self):
        rows = ["base 10", "ab + bc = cad", "a = b", "a = a"]
        self.assertEqual(self.told("\n".join(rows))[0], 10)
        for row in range(4):
            for bad in ("", "A = b", "a + b", "base 10 ", "base"):
                broken = [*rows[:row], bad, *rows[row + 1 :]]
                self.refused_row("\n".join(broken), row)
                self.refused_row("\n".join(broken[: row + 1]), row)
                # Another one behind it is not told.
                self.refused_row("\n".join([*broken, "?"]), row)
        self.refused_row("base 0\na = A\n", 0)
        self.refused_row("base 10\na = A\n", 1)

    def test_bases(self):
        for number in range(2, 13):
            self.assertEqual(self.told(f"base {number}\na = a")[0], number)
        # A number in one or two figures, of which no sheet can be.
        for number in (1, 13, 20, 99):
            self.refused_sheet(f"base {number}\na = a", 0, "base")
        for number in ("0", "00", "01", "02", "010", "100", "012", "1000000", "", "a", "1a", "a1", "-2", "+2", "1.", "2 "):
            self.refused_row(f"base {number}\na = a", 0)
        for row in ("", "base", "base10", "base  10", " base 10", "Base 10", "10", "bases 10", "base\t10", "base 10 10"):
            self.refused_row(f"{row}\na = a", 0)
        self.refused_row("base 1 0\na = a", 0)
        self.refused_row("base 10\r\na = a", 0)
        self.refused_row("base 10 \na = a", 0)

    def test_rows_of_sums(self):
        for row in (
            "",
            " ",
            "=",
            " = ",
            "a",
            "a =",
            "a = ",
            "= a",
            " = a",
            "a + b",
            "a + b =",
            "a + = b",
            "a +  = b",
            "+ a = b",
            " + a = b",
            "a = b = a",
            "a = b + a",
            "a + b + a",
            "a + b a = b",
            "a b = a",
            "a = a b",
            "a - b = a",
            "a + b == a",
            "a ++ b = a",
            "a+b=a",
            "a+ b = a",
            "a +b = a",
            "a + b= a",
            "a + b =a",
            "a  + b = a",
            "a +  b = a",
            "a + b  = a",
            "a + b =  a",
            " a + b = a",
            "a + b = a ",
            "a + b = a  ",
            "A + b = a",
            "a + B = a",
            "a + b = aB",
            "a1 + b = a",
            "a + b = 1",
            "a + b = a.",
            "a-b = a",
            "aaaaaaa + b = a",
            "a + aaaaaaa = a",
            "a + b = aaaaaaa",
            "a + b = a\r",
            "base 10",
        ):
            self.refused_row(f"base 10\n{row}", 1)
            self.refused_row(f"base 10\n{row}\na = a", 1)
            self.refused_row(f"base 10\na = a\n{row}", 2)
        self.assertEqual(self.told("base 10\naaaaaa + b = aaaaaa"), (10, [(("aaaaaa", "b"), "aaaaaa")]))

    def test_no_row_and_empty_rows(self):
        self.refused_row("", 0)
        self.refused_row("\n", 0)
        self.refused_row("\nbase 10\na = a", 0)
        self.refused_row("base 10\n\na = a", 1)
        self.refused_row("base 10\n", 1)
        self.refused_row("base 10\na = a\n", 2)
        self.refused_row("base 10\na = a\n\n", 2)
        self.refused_row(GOOD + "\n", 3)

    def test_good_rows_of_which_no_sheet_can_be(self):
        self.refused_sheet("base 10", 0, "sums")
        self.refused_sheet("base 10\na = a\na = a\na = a\na = a", 0, "sums")
        self.refused_sheet("base 1\na = a\na = a\na = a\na = a", 0, "base")
        self.refused_sheet("base 13", 0, "base")
        self.refused_sheet("base 10\na + a + a + a + a = a", 0, "addends")
        self.refused_sheet("base 10\na = a\na + a + a + a + a = a", 1, "addends")
        self.refused_sheet("base 2\na + b = c", 0, "letters")
        self.refused_sheet("base 3\na + b = c\na = a\na = d", 2, "letters")
        self.refused_sheet("base 12\nabcdef = gh\ni = a", 1, "letters")

    def test_a_bad_row_is_told_ahead_of_a_sheet_that_cannot_be(self):
        self.refused_row("base 13\na = a\na = A", 2)
        self.refused_row("base 1\n", 1)
        self.refused_row("base 10\na = a\na = a\na = a\na = a\n", 5)
        self.refused_row("base 2\na + b = c\n=", 2)
        self.refused_row("base 10\na + a + a + a + a = a\na + aaaaaaa = a", 2)


if __name__ == "__main__":
    unittest.main()
