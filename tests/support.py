"""Writes calls as the program takes them, and takes what it answers apart again."""

from itertools import product

from sharedspins.games import answers

MOST = 4294967295

NONE_SUCH = [-2]
NOT_BEGUN = [-11]
NOT_AS_TOLD = [-22]

BEST = [5]


def begin(persons, questions):
    return [0, persons, questions]


def wins(which, row):
    return [1, which, len(row)] + list(row)


def odd(parity, row):
    return [2, parity, len(row)] + list(row)


def counts(much, row):
    return [3, much, len(row)] + list(row)


def plan(row):
    return [4, len(row)] + list(row)


def plans(much):
    return [6, much]


def spins(row):
    return [7, len(row)] + list(row)


def link(i, j):
    return [8, i, j]


def flat(lists):
    return [number for numbers in lists for number in numbers]


def run(*calls):
    """What each call answers, as a list of lists; checks the form on the way."""
    told = answers(flat(calls))
    assert type(told) is list
    assert all(type(number) is int for number in told), told
    apart = []
    start = 0
    while start < len(told):
        end = start + 1 + told[start]
        assert told[start] >= 1 and end <= len(told), told
        apart.append(told[start + 1:end])
        start = end
    assert len(apart) == len(calls), told
    return apart


def last(*calls):
    """What the last call answers."""
    return run(*calls)[-1]


def rows_asked(persons, questions):
    """All rows that may be asked."""
    return [list(row) for row in product(range(questions), repeat=persons)]


def looks(persons, questions):
    """Calls that together show all that can be seen of a game; they change it, so they come last."""
    shown = [BEST, plan([0] * (persons * questions))]
    for row in rows_asked(persons, questions):
        shown += [wins(0, row), counts(0, row)]
    # A link to a spin that there isn't is refused, so these tell how many spins there are, too.
    return shown + [link(i, j) for j in range(7) for i in range(j)]
