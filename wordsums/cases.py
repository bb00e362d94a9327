"""Tables of cases: the one that reading makes, its answers and its size."""

from wordsums.sheets import column_count, column_of, first_letters, letter_at


class Reader:
    """Makes the table of a sheet by reading it, and finds its answers on the way."""

    def __init__(self, sheet):
        self.base = sheet.base
        self.order = sheet.letters()
        self.firsts = first_letters(sheet)
        self.steps = steps_of(sheet)
        self.found = []

    def case_from(self, turn, figures, carried):
        """The case in which these figures are known, made by the steps from this turn on."""
        step = self.steps[turn]
        if step[0] == "cases":
            return self.parted(turn, figures, carried)
        if step[0] == "so":
            return self.forced(turn, figures, carried)
        if step[0] == "off":
            return self.compared(turn, figures, carried)
        # These two steps are written as the cases that they make.
        if step[0] == "over":
            return step if carried else self.case_from(turn + 1, figures, 0)
        self.found.append(tuple([figures[letter] for letter in self.order]))
        return step

    def parted(self, turn, figures, carried):
        """A case for each figure that is free for an addend's letter."""
        letter = self.steps[turn][1]
        rows = []
        for figure in free_figures(letter, figures, self.firsts, self.base):
            case = self.case_from(turn + 1, {**figures, letter: figure}, carried)
            rows.append((figure, case))
        return ("cases", letter, tuple(rows))

    def forced(self, turn, figures, carried):
        """The case in which the total's letter is what the column ends on, if that is free."""
        at, place, added, letter = self.steps[turn][1:]
        ahead, figure = self.column_end(added, figures, carried)
        if figure not in free_figures(letter, figures, self.firsts, self.base):
            return ("taken", at, place)
        return ("so", at, place, self.case_from(turn + 1, {**figures, letter: figure}, ahead))

    def compared(self, turn, figures, carried):
        """The case behind a column whose letters are all known, if it ends as the total does."""
        at, place, added, letter = self.steps[turn][1:]
        ahead, figure = self.column_end(added, figures, carried)
        if figure != (figures[letter] if letter else 0):
            return ("off", at, place)
        return self.case_from(turn + 1, figures, ahead)

    def column_end(self, added, figures, carried):
        """What a column of these addends' letters carries on, and the figure that it ends on."""
        return divmod(carried + sum([figures[letter] for letter in added]), self.base)


def steps_of(sheet):
    """What reading does, in turn.

    A letter that reading has met is known from there on, whichever its figure is:
    so the steps are the same in all cases.
    """
    steps = []
    known = {"": True}
    for at, (addends, total) in enumerate(sheet.sums()):
        for place in range(column_count(addends, total)):
            added = column_of(addends, place)
            for letter in added:
                if letter not in known:
                    known[letter] = True
                    steps.append(("cases", letter))
            ended = letter_at(total, place)
            # Where the total has no letter ("") there is nothing to find, only an end to compare.
            steps.append(("off" if ended in known else "so", at, place, added, ended))
            known[ended] = True
        steps.append(("over", at))
    steps.append(("answer",))
    return steps


def free_figures(letter, figures, firsts, base):
    """The figures that are free for a letter that is not known, rising."""
    taken = list(figures.values())
    least = 1 if letter in firsts else 0
    return [figure for figure in range(least, base) if figure not in taken]


def read_through(sheet):
    """The table that reading makes, and the list of its answers in its order."""
    reader = Reader(sheet)
    table = reader.case_from(0, {}, 0)
    return table, reader.found


def table_of(sheet):
    """The table of a sheet that is made by reading."""
    return read_through(sheet)[0]


def answers(sheet):
    """All answers to a sheet, in the order of the table that is made by reading."""
    return read_through(sheet)[1]


def size_of(table):
    """How many cases a table has, itself and all that stand in it."""
    many = 0
    waiting = [table]
    while waiting:
        case = waiting.pop()
        many += 1
        if case[0] == "cases":
            waiting.extend([inner for figure, inner in case[2]])
        elif case[0] == "so":
            waiting.append(case[3])
    return many
