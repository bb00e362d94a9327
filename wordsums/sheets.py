"""Sheets, how they are read, and what is an answer to one."""

from wordsums.errors import BadSheet

LEAST_BASE = 2
MOST_BASE = 12
MOST_SUMS = 3
MOST_ADDENDS = 4
MOST_IN_WORD = 6
MOST_LETTERS = 8
SMALL_LETTERS = "abcdefghijklmnopqrstuvwxyz"


class Sheet:
    """A base and one to three sums of words."""

    def __init__(self, base, sums):
        check_counts(base, sums)
        check_sums(base, sums)
        self.base = base
        self.kept = list(sums)

    def sums(self):
        """The sums, as they were handed in."""
        return list(self.kept)

    def letters(self):
        """The letters, in the order in which reading meets them first."""
        met = {}
        for addends, total in self.kept:
            for place in range(column_count(addends, total)):
                for letter in column_of((*addends, total), place):
                    met[letter] = True
        return list(met)


def check_counts(base, sums):
    """Refuse a base or a count of sums that cannot be."""
    if not LEAST_BASE <= base <= MOST_BASE:
        raise BadSheet(0, "base")
    if not 1 <= len(sums) <= MOST_SUMS:
        raise BadSheet(0, "sums")


def check_sums(base, sums):
    """Refuse the first sum that cannot be, by itself or behind the sums ahead of it."""
    words = []
    for at, (addends, total) in enumerate(sums):
        if not 1 <= len(addends) <= MOST_ADDENDS:
            raise BadSheet(at, "addends")
        if not all([is_word(word) for word in (*addends, total)]):
            raise BadSheet(at, "word")
        words.extend([*addends, total])
        if len(set("".join(words))) > min(MOST_LETTERS, base):
            raise BadSheet(at, "letters")


def is_word(text):
    """Whether a text is a word of a sheet."""
    return 1 <= len(text) <= MOST_IN_WORD and all([sign in SMALL_LETTERS for sign in text])


def column_count(addends, total):
    """How many columns a sum has."""
    return max([len(word) for word in (*addends, total)])


def letter_at(word, place):
    """The letter of a word in a column (counted from the right, from 0), or "" if the word is too short."""
    return word[-1 - place] if place < len(word) else ""


def column_of(words, place):
    """The letters of those words that are long enough for a column."""
    return [letter_at(word, place) for word in words if place < len(word)]


def first_letters(sheet):
    """The letters that do not stand for 0, since a word of two letters or more begins with them."""
    firsts = []
    for addends, total in sheet.sums():
        firsts.extend([word[0] for word in (*addends, total) if len(word) > 1])
    return firsts


def worth(word, figures, base):
    """The number that a word is worth, by the figures of its letters."""
    number = 0
    for letter in word:
        number = number * base + figures[letter]
    return number


def keeps(sheet, figures):
    """Whether the figures of a sheet's letters are an answer to it."""
    told = [figures[letter] for letter in sheet.letters()]
    if len(set(told)) < len(told) or min(told) < 0 or max(told) >= sheet.base:
        return False
    if any([figures[letter] == 0 for letter in first_letters(sheet)]):
        return False
    return all([surplus(addends, total, figures, sheet.base) == 0 for addends, total in sheet.sums()])


def surplus(addends, total, figures, base):
    """By how much the addends' worths together are more than the total's."""
    return sum([worth(word, figures, base) for word in addends]) - worth(total, figures, base)
