"""Sheets with one answer, and what must be known so that there is just one."""

from wordsums.cases import answers, read_through
from wordsums.counting import how_many
from wordsums.errors import BadSheet, ManyAnswers, NoAnswer, NotOne
from wordsums.sheets import Sheet


def only(sheet):
    """The only answer to a sheet, and the sheet's table."""
    table, told = read_through(sheet)
    if not told:
        raise NoAnswer(table)
    if len(told) > 1:
        raise ManyAnswers(told[:2])
    return told[0], table


def sure(sheet, known):
    """The letters that stand for the same figure in all answers that have the known ones, with that figure."""
    letters = sheet.letters()
    told = having(answers(sheet), letters, known)
    if not told:
        raise NotOne("no answer has these figures")
    same = {}
    for place, letter in enumerate(letters):
        figure = told[0][place]
        if all([answer[place] == figure for answer in told]):
            same[letter] = figure
    return same


def givens(sheet, answer):
    """Letters that must be given so that just this answer is left, found from the last letter on."""
    letters = sheet.letters()
    told = answers(sheet)
    if answer not in told:
        raise NotOne("these figures are no answer")
    given = dict(zip(letters, answer))
    for letter in reversed(letters):
        fewer = {other: given[other] for other in given if other != letter}
        if len(having(told, letters, fewer)) == 1:
            given = fewer
    return list(given)


def having(told, letters, known):
    """Those of some answers in which the known letters stand for their figures."""
    asked = [(place, known[letter]) for place, letter in enumerate(letters) if letter in known]
    return [answer for answer in told if all([answer[place] == figure for place, figure in asked])]


def worthy(base, words):
    """All (i, j, k) for which the words i and j together are the word k in just one way."""
    found = []
    for i in range(len(words)):
        for j in range(i + 1, len(words)):
            for k in range(len(words)):
                if k not in (i, j) and has_one(base, [((words[i], words[j]), words[k])]):
                    found.append((i, j, k))
    return found


def has_one(base, sums):
    """Whether a sheet of these sums can be, and has just one answer."""
    try:
        sheet = Sheet(base, sums)
    except BadSheet:
        return False
    return how_many(sheet) == 1
