"""What a sheet's answers and tables must be, worked out slowly and straight from the document.

Nothing here uses the program. Everything is by the worths of words and of their ends,
never by carrying, so that a slip in one way is not repeated in the other.
"""

import itertools


def words_of(sums):
    return [word for addends, total in sums for word in (*addends, total)]


def reading_of(sums):
    """All letters that reading passes: (sum, column, whether the total's, letter or None)."""
    passed = []
    for at, (addends, total) in enumerate(sums):
        for place in range(max(len(word) for word in (*addends, total))):
            for word in addends:
                if place < len(word):
                    passed.append((at, place, False, word[len(word) - 1 - place]))
            letter = total[len(total) - 1 - place] if place < len(total) else None
            passed.append((at, place, True, letter))
    return passed


def letters_of(sums):
    order = []
    for _, _, _, letter in reading_of(sums):
        if letter is not None and letter not in order:
            order.append(letter)
    return order


def number(word, known, base):
    return sum(known[letter] * base ** place for place, letter in enumerate(reversed(word)))


def is_answer(base, sums, known):
    figures = [known[letter] for letter in letters_of(sums)]
    return (
        all(0 <= figure < base for figure in figures)
        and len(set(figures)) == len(figures)
        and not any(len(word) > 1 and known[word[0]] == 0 for word in words_of(sums))
        and all(
            sum(number(word, known, base) for word in addends) == number(total, known, base)
            for addends, total in sums
        )
    )


def all_answers(base, sums):
    """Every answer; as tuples in the order of the letters they rise, as a table's do."""
    letters = letters_of(sums)
    return [
        figures
        for figures in itertools.permutations(range(base), len(letters))
        if is_answer(base, sums, dict(zip(letters, figures)))
    ]


def free(base, sums, known, letter):
    leads = any(len(word) > 1 and word[0] == letter for word in words_of(sums))
    return [f for f in range(1 if leads else 0, base) if f not in known.values()]


def differ(base, one, known, columns):
    """By how much the addends' ends of so many columns differ from the total's."""
    addends, total = one
    if columns == 0:
        return 0
    return sum(number(w[-columns:], known, base) for w in addends) - number(total[-columns:], known, base)


def forced(base, one, known, letter, place):
    """The one figure by which a total's letter makes the columns 0 to place end as they must."""
    fitting = [
        figure
        for figure in range(base)
        if differ(base, one, {**known, letter: figure}, place + 1) % base ** (place + 1) == 0
    ]
    assert len(fitting) == 1, fitting
    return fitting[0]


def table_by_reading(base, sums):
    """The table that is made by reading (point 7)."""
    passed = reading_of(sums)

    def go(turn, known):
        if turn == len(passed):
            return ("answer",)
        at, place, is_total, letter = passed[turn]
        if not is_total:
            if letter in known:
                return go(turn + 1, known)
            rows = [(f, go(turn + 1, {**known, letter: f})) for f in free(base, sums, known, letter)]
            return ("cases", letter, tuple(rows))
        if letter is not None and letter not in known:
            figure = forced(base, sums[at], known, letter, place)
            if figure not in free(base, sums, known, letter):
                return ("taken", at, place)
            return ("so", at, place, behind(turn, {**known, letter: figure}))
        if differ(base, sums[at], known, place + 1) % base ** (place + 1):
            return ("off", at, place)
        return behind(turn, known)

    def behind(turn, known):
        at = passed[turn][0]
        last = turn + 1 == len(passed) or passed[turn + 1][0] != at
        if last and differ(base, sums[at], known, 6):
            return ("over", at)
        return go(turn + 1, known)

    return go(0, {})


def answers_shown(base, sums, table):
    """The answers of a table each case of which is as point 6 says; an AssertionError if one is not."""
    letters = letters_of(sums)
    found = []

    def column_letters(at, columns):
        addends, total = sums[at]
        return {letter for word in (*addends, total) for letter in word[-columns:]}

    def look(case, known):
        assert isinstance(case, tuple), case
        kind = case[0]
        if kind == "cases":
            _, letter, rows = case
            assert isinstance(rows, tuple) and letter in letters and letter not in known, case
            assert [figure for figure, _ in rows] == free(base, sums, known, letter), case
            for figure, inner in rows:
                look(inner, {**known, letter: figure})
        elif kind in ("so", "taken"):
            at, place = case[1:3]
            letter = sums[at][1][len(sums[at][1]) - 1 - place]
            assert column_letters(at, place + 1) - set(known) == {letter}, case
            assert differ(base, sums[at], known, place) % base**place == 0, case
            figure = forced(base, sums[at], known, letter, place)
            assert (figure in free(base, sums, known, letter)) == (kind == "so"), case
            assert len(case) == (4 if kind == "so" else 3), case
            if kind == "so":
                look(case[3], {**known, letter: figure})
        elif kind == "off":
            _, at, place = case
            assert column_letters(at, place + 1) <= set(known), case
            assert differ(base, sums[at], known, place + 1) % base ** (place + 1), case
        elif kind == "over":
            _, at = case
            assert column_letters(at, 6) <= set(known), case
            assert differ(base, sums[at], known, 6), case
        else:
            assert case == ("answer",), case
            assert is_answer(base, sums, known), case
            found.append(tuple(known[letter] for letter in letters))

    look(table, {})
    return found


def cases_in(table):
    """How many cases a table has."""
    if table[0] == "cases":
        return 1 + sum(cases_in(case) for _, case in table[2])
    if table[0] == "so":
        return 1 + cases_in(table[3])
    return 1


def small_sheets():
    """Many small sheets that can be, as (base, sums): one to three sums, one to four addends."""
    words = ("a", "b", "c", "ab", "ba", "cb", "aab", "bca")
    for base in (2, 3, 4, 5):
        for addends in [(w,) for w in words] + list(itertools.product(words, repeat=2)):
            for total in words:
                if len(set("".join((*addends, total)))) <= base:
                    yield base, [(addends, total)]
    pairs = [(("a", "b"), "c"), (("ab", "b"), "ca"), (("c",), "c"), (("ba", "d"), "cc"), (("aa", "b", "c"), "dd")]
    for sums in itertools.product(pairs, repeat=2):
        for base in (4, 5, 7):
            yield base, list(sums)
    for sums in itertools.product(pairs, repeat=3):
        yield 6, list(sums)
    for base in (2, 3, 6):
        for addends in itertools.product(("a", "ba", "aa"), repeat=4):
            for total in ("b", "bb", "aab", "baa"):
                yield base, [(addends, total)]
