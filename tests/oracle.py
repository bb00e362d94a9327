"""What a sheet's answers and tables must be, worked out slowly and straight from the document.

Nothing here uses the program. Everything is by the worths of words and of their ends,
never by carrying, so that a slip in one way is not repeated in the other.
"""

import itertools


def words_of(sums):
    return [word for addends, total in sums for word in (*addends, total)]


def reading_of(sums):
    """All letters that reading passes: (sum, column, whether the total's, letter or None)."""
    passed = []
    for at, (addends, total) in enumerate(sums):
        for place in range(max(len(word) for word in (*addends, total))):
            for word in addends:
                if place < len(word):
                    passed.append((at, place, False, word[len(word) - 1 - place]))
            letter = total[len(total) - 1 - place] if place < len(total) else None
            passed.append((at, place, True, letter))
    return passed


def letters_of(sums):
    order = []
    for _, _, _, letter in reading_of(sums):
        if letter is not None and letter not in order:
            order.append(letter)
    return order


def number(word, known, base):
    return sum(known[letter] * base ** place for place, letter in enumerate(reversed(word)))


def is_answer(base, sums, known):
    figures = [known[letter] for letter in letters_of(sums)]
    return (
        all(0 <= figure < base for figure in figures)
        and len(set(figures)) == len(figures)
        and not any(len(word) > 1 and known[word[0]] == 0 for word in words_of(sums))
        and all(
            sum(number(word, known, base) for word in addends) == number(total, known, base)
            for addends, total in sums
        )
    )


def all_answers(base, sums):
    """Every answer; as tuples in the order of the letters they rise, as a table's do."""
    letters = letters_of(sums)
    return [
        figures
        for figures in itertools.permutations(range(base), len(letters))
        if is_answer(base, sums, dict(zip(letters, figures)))
    ]


def free(base, sums, known, letter):
    leads = any(len(word) > 1 and word[0] == letter for word in words_of(sums))
    return [f for f in range(1 if leads else 0, base) if f not in known.values()]


def differ(base, one, known, columns):
    """By how much the addends' ends of so many columns differ from the total's."""
    addends, total = one
    if columns == 0:
        return 0
    return sum(number(w[-columns:], known, base) for w in addends) - number(total[-columns:], known, base)


def forced(base, one, known, letter, place):
    """The one figure by which a total's letter makes the columns 0 to place end as they must."""
    fitting = [
        figure
        for figure in range(base)
        if differ(base, one, {**known, letter: figure}, place + 1) % base ** (place + 1) == 0
    ]
    assert len(fitting) == 1, fitting
    return fitting[0]


def table_by_reading(base, sums):
    """The table that is made by reading (point 7)."""
    passed = reading_of(sums)

    def go(turn, known):
        if turn == len(passed):
            return ("answer",)
        at, place, is_total, letter = passed[turn]
        if not is_total:
            if letter in known:
                return go(turn + 1, known)
            rows = [(f, go(turn + 1, {**known, letter: f})) for f in free(base, sums, known, letter)]
            return ("cases", letter, tuple(rows))
        if letter is not None and letter not in known:
            figure = forced(base, sums[at], known, letter, place)
            if figure not in free(base, sums, known, letter):
                return ("taken", at, place)
            return ("so", at, place, behind(turn, {**known, letter: figure}))
        if differ(base, sums[at], known, place + 1) % base ** (place + 1):
            return ("off", at, place)
        return behind(turn, known)

    def behind(turn, known):
        at = passed[turn][0]
        last = turn + 1 == len(passed) or passed[turn + 1][0] != at
        if last and differ(base, sums[at], known, 6):
            return ("over", at)
        return go(turn + 1, known)

    return go(0, {})


def letters_up_to(words, place):
    """The letters that stand in the columns 0 to place, one by one as they stand."""
    return [letter for word in words for column, letter in enumerate(reversed(word)) if column <= place]


def total_letter(one, place):
    return one[1][len(one[1]) - 1 - place]


def must_be(base, one, known, place):
    """The figure that the total's letter in a column must be (point 6); None if that is not so."""
    addends, total = one
    if place not in range(len(total)) or total_letter(one, place) in known:
        return None
    others = letters_up_to(addends, place) + letters_up_to([total], place - 1)
    if not set(others) <= set(known) or differ(base, one, known, place) % base**place:
        return None
    return forced(base, one, known, total_letter(one, place), place)


def stands(base, sums, known, case):
    """Whether a case, but for the cases in it, is one of those that point 6 lists."""
    sizes = {"cases": 3, "so": 4, "taken": 3, "off": 3, "over": 2, "answer": 1}
    kind = case[0] if isinstance(case, tuple) and case else None
    if kind not in sizes or len(case) != sizes[kind]:
        return False
    if kind == "answer":
        return set(known) == set(letters_of(sums)) and is_answer(base, sums, known)
    if kind == "cases":
        _, letter, rows = case
        if letter not in letters_of(sums) or letter in known or not isinstance(rows, tuple):
            return False
        told = [row[0] if isinstance(row, tuple) and len(row) == 2 else None for row in rows]
        return told == free(base, sums, known, letter)
    if case[1] not in range(len(sums)):
        return False
    one = addends, total = sums[case[1]]
    if kind == "over":
        return set(letters_up_to((*addends, total), 5)) <= set(known) and differ(base, one, known, 6) != 0
    place = case[2]
    if place not in range(max(len(word) for word in (*addends, total))):
        return False
    if kind == "off":
        if not set(letters_up_to((*addends, total), place)) <= set(known):
            return False
        return differ(base, one, known, place + 1) % base ** (place + 1) != 0
    figure = must_be(base, one, known, place)
    if figure is None:
        return False
    return (figure in free(base, sums, known, total_letter(one, place))) == (kind == "so")


def shown(base, sums, table):
    """The answers of a table, in its order, or None for what is no table."""
    found = []

    def look(case, known):
        if not stands(base, sums, known, case):
            return False
        if case[0] == "cases":
            return all([look(inner, {**known, case[1]: figure}) for figure, inner in case[2]])
        if case[0] == "so":
            one = sums[case[1]]
            return look(case[3], {**known, total_letter(one, case[2]): must_be(base, one, known, case[2])})
        if case[0] == "answer":
            found.append(tuple(known[letter] for letter in letters_of(sums)))
        return True

    return found if look(table, {}) else None


def any_table(base, sums, choose):
    """A table in which choose picks, for each case, one of all that can stand there."""
    letters = letters_of(sums)
    columns = [(at, place) for at in range(len(sums)) for place in range(6)]

    def go(known):
        heads = [("cases", letter, tuple((f, None) for f in free(base, sums, known, letter))) for letter in letters]
        heads += [("so", *column, None) for column in columns]
        heads += [(kind, *column) for kind in ("taken", "off") for column in columns]
        heads += [("over", at) for at in range(len(sums))] + [("answer",)]
        case = choose([head for head in heads if stands(base, sums, known, head)])
        if case[0] == "cases":
            return (*case[:2], tuple((figure, go({**known, case[1]: figure})) for figure, _ in case[2]))
        if case[0] == "so":
            one = sums[case[1]]
            figure = must_be(base, one, known, case[2])
            return (*case[:3], go({**known, total_letter(one, case[2]): figure}))
        return case

    return go({})


def cases_in(table):
    """How many cases a table has."""
    if table[0] == "cases":
        return 1 + sum(cases_in(case) for _, case in table[2])
    if table[0] == "so":
        return 1 + cases_in(table[3])
    return 1


def small_sheets():
    """Many small sheets that can be, as (base, sums): one to three sums, one to four addends."""
    words = ("a", "b", "c", "ab", "ba", "cb", "aab", "bca")
    for base in (2, 3, 4, 5):
        for addends in [(w,) for w in words] + list(itertools.product(words, repeat=2)):
            for total in words:
                if len(set("".join((*addends, total)))) <= base:
                    yield base, [(addends, total)]
    pairs = [(("a", "b"), "c"), (("ab", "b"), "ca"), (("c",), "c"), (("ba", "d"), "cc"), (("aa", "b", "c"), "dd")]
    for sums in itertools.product(pairs, repeat=2):
        for base in (4, 5, 7):
            yield base, list(sums)
    for sums in itertools.product(pairs, repeat=3):
        yield 6, list(sums)
    for base in (2, 3, 6):
        for addends in itertools.product(("a", "ba", "aa"), repeat=4):
            for total in ("b", "bb", "aab", "baa"):
                yield base, [(addends, total)]
