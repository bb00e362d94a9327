"""How many answers a sheet has, counted without a table."""

from wordsums.sheets import first_letters, surplus


def how_many(sheet):
    """How many answers a sheet has.

    The letters get their figures one by one, those that weigh most first, and nothing is carried.
    Ways of giving figures that are alike for the letters behind are counted together; ways with
    a surplus that the letters behind cannot make up for are left out. Where no letter is behind,
    just the ways without a surplus are left: the answers.
    """
    firsts = first_letters(sheet)
    waiting = by_weight(sheet)
    ways = {(0, tuple([0 for one in sheet.sums()])): 1}
    while waiting:
        letter, weights = waiting.pop()
        figures = list(range(1 if letter in firsts else 0, sheet.base))
        ways = with_one_more(ways, weights, figures, spans_of(waiting, sheet))
    return sum(list(ways.values()))


def by_weight(sheet):
    """Pairs of a letter and its weights (the surplus in each sum of a 1 for it), the heaviest last."""
    letters = sheet.letters()
    pairs = []
    for letter in letters:
        figures = {other: 1 if other == letter else 0 for other in letters}
        weights = [surplus(addends, total, figures, sheet.base) for addends, total in sheet.sums()]
        pairs.append((letter, weights))
    return sorted(pairs, key=lambda pair: max([abs(weight) for weight in pair[1]]))


def spans_of(waiting, sheet):
    """The least and the most surplus in each sum that the letters behind may still make up for."""
    highest = sheet.base - 1
    spans = []
    for at in range(len(sheet.sums())):
        most = highest * sum([max(0, weights[at]) for letter, weights in waiting])
        least = highest * sum([min(0, weights[at]) for letter, weights in waiting])
        spans.append((-most, -least))
    return spans


def with_one_more(ways, weights, figures, spans):
    """The ways that come of these by giving one more letter one of some figures, within the spans.

    A way is told as the figures that are taken (a bit for each) and the surplus in each sum.
    """
    grown = {}
    for (taken, more), count in ways.items():
        for figure in figures:
            sums = tuple([number + figure * weight for number, weight in zip(more, weights)])
            if taken & (1 << figure) == 0 and is_within(sums, spans):
                way = (taken | (1 << figure), sums)
                grown[way] = grown.get(way, 0) + count
    return grown


def is_within(numbers, spans):
    """Whether each number is in its span."""
    return all([least <= number <= most for number, (least, most) in zip(numbers, spans)])
