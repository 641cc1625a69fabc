"""Writes calls as the program takes them, and takes what it answers apart again."""

from itertools import product

from sharedspins.games import answers

MOST = 4294967295

NONE_SUCH = [-2]
NOT_BEGUN = [-11]
SOMETHING_MEASURED = [-16]
NOT_AS_TOLD = [-22]
NOT_SURE_SO = [-33]

BEST = [5]
FRESH = [9]
VALUE = [15]
STATE = [17]

# The letters.
N, X, Y, Z = range(4)

SIZES = [(2, 1), (2, 2), (2, 3), (3, 1), (3, 2), (4, 1), (4, 2)]


def begin(persons, questions):
    return [0, persons, questions]


def wins(which, row):
    return [1, which, len(row)] + list(row)


def odd(parity, row):
    return [2, parity, len(row)] + list(row)


def counts(much, row):
    return [3, much, len(row)] + list(row)


def plan(row):
    return [4, len(row)] + list(row)


def plans(much):
    return [6, much]


def spins(row):
    return [7, len(row)] + list(row)


def link(i, j):
    return [8, i, j]


def sure(letters):
    return [10, len(letters)] + list(letters)


def measure(outcome, letters):
    return [11, outcome, len(letters)] + list(letters)


def mine(person, question, sign, letters):
    return [12, person, question, sign, len(letters)] + list(letters)


def chance(row, answered):
    return [13, len(row) + len(answered)] + list(row) + list(answered)


def parity(row, some):
    return [14, len(row) + len(some)] + list(row) + list(some)


def row_call(row):
    return [16, len(row)] + list(row)


def flat(lists):
    return [number for numbers in lists for number in numbers]


def run(*calls):
    """What each call answers, as a list of lists; checks the form on the way."""
    told = answers(flat(calls))
    assert type(told) is list
    assert all(type(number) is int for number in told), told
    apart = []
    start = 0
    while start < len(told):
        end = start + 1 + told[start]
        assert told[start] >= 1 and end <= len(told), told
        apart.append(told[start + 1:end])
        start = end
    assert len(apart) == len(calls), told
    return apart


def last(*calls):
    """What the last call answers."""
    return run(*calls)[-1]


def rows_asked(persons, questions):
    """All rows that may be asked."""
    return [list(row) for row in product(range(questions), repeat=persons)]


def bits(length):
    """All rows of 0 and 1 of this length."""
    return [list(row) for row in product([0, 1], repeat=length)]


def all_letters(spins):
    """All rows of letters for so many spins."""
    return [list(row) for row in product(range(4), repeat=spins)]


def letters_at(spins, placed):
    """A row of letters for so many spins, with letters on these alone."""
    return [placed.get(spin, N) for spin in range(spins)]


def looks(persons, questions, spins=0):
    """Calls that together show what can be seen of a game with so many spins, at most 3; they come last."""
    rows = rows_asked(persons, questions)
    every = [sure(letters) for letters in all_letters(spins)]
    shown = [STATE, BEST, VALUE] + [row_call(row) for row in rows] + every
    for row in rows:
        shown += [parity(row, [1] * persons)] + [parity(row, [1] + [0] * (persons - 1))]
    # These change what's sure: the links are seen, then each one's measurements, as all with letters Z are sure.
    shown += [FRESH, STATE, VALUE] + every[::3]
    shown += [measure(0, letters_at(spins, {spin: Z})) for spin in range(spins)] + [STATE, VALUE]
    return shown + [parity(row, [1] * persons) for row in rows]
