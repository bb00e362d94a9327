"""Whether a table shows all answers to a sheet."""

from wordsums.cases import free_figures
from wordsums.sheets import column_count, first_letters, letter_at, surplus


class Proof:
    """Goes through a table, case by case, and finds its answers on the way."""

    def __init__(self, sheet):
        self.base = sheet.base
        self.kept = sheet.sums()
        self.order = sheet.letters()
        self.firsts = first_letters(sheet)
        self.found = []

    def holds(self, table, figures):
        """Whether a table, or a case in one, is as it must be where these figures are known."""
        match table:
            case ("cases", letter, rows):
                return self.rows_hold(letter, rows, figures)
            case ("so", at, place, inner):
                return self.goes_on(at, place, inner, figures)
            case ("taken", at, place):
                return self.is_taken(at, place, figures)
            case ("off", at, place):
                return self.is_off(at, place, figures)
            case ("over", at):
                return self.is_over(at, figures)
            case ("answer",):
                return self.is_answer(figures)
            case _:
                return False

    def rows_hold(self, letter, rows, figures):
        """Whether a letter that is not known has a row for each free figure, and each row holds."""
        if letter not in self.order or letter in figures:
            return False
        free = free_figures(letter, figures, self.firsts, self.base)
        return len(rows) == len(free) and all(
            self.row_holds(row, letter, figure, figures) for row, figure in zip(rows, free)
        )

    def row_holds(self, row, letter, figure, figures):
        """Whether a row is for this figure of a letter, and its case holds."""
        match row:
            case (told, inner):
                return told == figure and self.holds(inner, {**figures, letter: figure})
            case _:
                return False

    def goes_on(self, at, place, inner, figures):
        """Whether the total's letter must be one figure, which is free, and the case behind holds."""
        forced = self.must_be(at, place, figures)
        if forced is None:
            return False
        letter, figure = forced
        return self.is_free(letter, figure, figures) and self.holds(inner, {**figures, letter: figure})

    def is_taken(self, at, place, figures):
        """Whether the total's letter must be one figure, which is not free."""
        forced = self.must_be(at, place, figures)
        if forced is None:
            return False
        letter, figure = forced
        return not self.is_free(letter, figure, figures)

    def must_be(self, at, place, figures):
        """The total's letter in a column and the one figure that it must be; None if it need not be one."""
        if not self.has_column(at, place):
            return None
        addends, total = self.kept[at]
        letter = letter_at(total, place)
        ends, ahead = ends_of(addends, place + 1), end_of(total, place)
        if letter == "" or letter in figures or not are_known((*ends, ahead), figures):
            return None
        # The addends' letters in the column itself, taken in here, do not change what is left over.
        more, left = divmod(surplus(ends, ahead, figures, self.base), one_in(place, self.base))
        return (letter, more % self.base) if left == 0 else None

    def is_off(self, at, place, figures):
        """Whether all is known up to a column, and the total's letters there are not what the addends make."""
        if not self.has_column(at, place):
            return False
        addends, total = self.kept[at]
        ends, end = ends_of(addends, place + 1), end_of(total, place + 1)
        if not are_known((*ends, end), figures):
            return False
        return surplus(ends, end, figures, self.base) % one_in(place + 1, self.base) != 0

    def is_over(self, at, figures):
        """Whether a sum's letters are all known, and it is not so."""
        if not 0 <= at < len(self.kept):
            return False
        addends, total = self.kept[at]
        return are_known((*addends, total), figures) and surplus(addends, total, figures, self.base) != 0

    def is_answer(self, figures):
        """Whether all letters are known, and are an answer, which is kept."""
        # Each figure was free when it came to be known: only whether the sums are so is left to ask.
        if len(figures) < len(self.order) or any([self.is_over(at, figures) for at in range(len(self.kept))]):
            return False
        self.found.append(tuple([figures[letter] for letter in self.order]))
        return True

    def has_column(self, at, place):
        """Whether there is such a sum, and it has such a column."""
        if not 0 <= at < len(self.kept):
            return False
        addends, total = self.kept[at]
        return 0 <= place < column_count(addends, total)

    def is_free(self, letter, figure, figures):
        """Whether a figure is free for a letter that is not known."""
        return figure in free_figures(letter, figures, self.firsts, self.base)


def end_of(word, many):
    """What of a word stands in the first columns, so many."""
    return word[max(0, len(word) - many):]


def ends_of(words, many):
    """What of some words stands in the first columns, so many."""
    return [end_of(word, many) for word in words]


def are_known(words, figures):
    """Whether all letters of some words are known."""
    return all([letter in figures for letter in "".join(words)])


def one_in(place, base):
    """What a 1 in a column is worth."""
    number = 1
    for column in range(place):
        number = number * base
    return number


def shows(sheet, table):
    """The answers of a table, in its order, if it shows that there are no others; else None."""
    proof = Proof(sheet)
    return proof.found if proof.holds(table, {}) else None
