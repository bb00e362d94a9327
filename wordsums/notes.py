"""Sheets as texts."""

from wordsums.errors import BadText
from wordsums.sheets import Sheet, is_word

FIGURES = "0123456789"
AHEAD_OF_BASE = "base "


def written(sheet):
    """A sheet as a text."""
    rows = [f"{AHEAD_OF_BASE}{sheet.base}"]
    rows.extend([sum_row(addends, total) for addends, total in sheet.sums()])
    return "\n".join(rows)


def sum_row(addends, total):
    """A sum as a row."""
    return " + ".join(addends) + " = " + total


def read(text):
    """The sheet that a text is written from."""
    rows = text.split("\n")
    if not is_base_row(rows[0]):
        raise BadText(0)
    sums = []
    for number in range(1, len(rows)):
        words = words_of(rows[number])
        if not words:
            raise BadText(number)
        sums.append((tuple(words[:-1]), words[-1]))
    return Sheet(int(rows[0].removeprefix(AHEAD_OF_BASE)), sums)


def is_base_row(row):
    """Whether a row is the word for the base and a number in one or two figures, the first no 0."""
    if not row.startswith(AHEAD_OF_BASE):
        return False
    figures = row.removeprefix(AHEAD_OF_BASE)
    if not 1 <= len(figures) <= 2 or figures[0] == "0":
        return False
    return all([sign in FIGURES for sign in figures])


def words_of(row):
    """The words of a row that is a sum's, the total as the last; none if it is not a sum's."""
    # A sum's row is words with one sign between each two, all parted by one blank.
    words = row.split(" ")[::2]
    if all([is_word(word) for word in words]) and sum_row(words[:-1], words[-1]) == row:
        return words
    return []
