"""Long lines of calls, against a slow reading of the document that shares no code with the program."""

import random
import unittest
from itertools import product

from tests.support import (BEST, FRESH, MOST, SIZES, STATE, VALUE, begin, chance, counts, link, measure, mine, odd,
                           parity, plan, plans, row_call, run, spins, sure, wins)

NAMES = ["begin", "wins", "odd", "counts", "plan", "best", "plans", "spins", "link", "fresh", "sure", "measure", "mine",
         "chance", "parity", "value", "row", "state"]

# X and Y make Z, Y and Z make X, Z and X make Y.
ROUND = {(1, 2): 3, (2, 3): 1, (3, 1): 2}


def make_one(one, other):
    """What two letters on one spin make, and the quarter turns."""
    if one == 0 or other == 0:
        return max(one, other), 0
    if one == other:
        return 0, 0
    if (one, other) in ROUND:
        return ROUND[(one, other)], 1
    return ROUND[(other, one)], 3


def product_of_all(measurements, spins_there):
    """The product in order; the quarter turns are halved in the end."""
    sign, letters, turns = 0, [0] * spins_there, 0
    for its_sign, its_letters in measurements:
        sign += its_sign
        for spin in range(spins_there):
            letters[spin], more = make_one(letters[spin], its_letters[spin])
            turns += more
    return (sign + turns % 4 // 2) % 2, tuple(letters)


def go_together(one, other):
    return len([1 for a, b in zip(one[1], other[1]) if a != 0 and b != 0 and a != b]) % 2 == 0


class Words:
    """The document's words, as directly as they can be put."""

    def __init__(self):
        self.size = None

    def answer(self, call):
        name = NAMES[call[0]]
        if name != "begin" and self.size is None:
            return [-11]
        return getattr(self, name)(*call[1:])

    def begin(self, persons, questions):
        if persons not in (2, 3, 4) or questions not in (1, 2, 3) or persons * questions > 8:
            return [-22]
        self.size = (persons, questions)
        self.count = {row: 1 for row in product(range(questions), repeat=persons)}
        self.won = {row: set() for row in self.count}
        self.place([])
        return [0]

    def place(self, owners):
        self.of = tuple(owners)
        self.linked = set()
        self.own = {ask: (0, (0,) * len(owners)) for ask in product(range(self.size[0]), range(self.size[1]))}
        self.be_fresh()

    def be_fresh(self):
        self.touched = 0
        self.known = []
        for spin in range(len(self.of)):
            letters = [3 if frozenset((spin, other)) in self.linked else 0 for other in range(len(self.of))]
            letters[spin] = 1
            self.known.append((0, tuple(letters)))

    def replies(self):
        """All rows of answers, by their numbers."""
        persons = self.size[0]
        return {sum(2 ** k for k in range(persons) if row[k]): row for row in product((0, 1), repeat=persons)}

    def wins(self, which, length, *row):
        if row not in self.count or which >= 2 ** len(self.replies()):
            return [-22]
        earlier = sum(2 ** number for number, reply in self.replies().items() if reply in self.won[row])
        self.won[row] = {reply for number, reply in self.replies().items() if which // 2 ** number % 2}
        return [earlier]

    def odd(self, parity, length, *row):
        if row not in self.count or parity not in (0, 1):
            return [-22]
        self.won[row] = {reply for reply in self.replies().values() if sum(reply) % 2 == parity}
        return [sum(2 ** number for number, reply in self.replies().items() if reply in self.won[row])]

    def counts(self, much, length, *row):
        if row not in self.count or much > 99:
            return [-22]
        earlier = self.count[row]
        self.count[row] = much
        return [earlier]

    def all_plans(self):
        return list(product((0, 1), repeat=self.size[0] * self.size[1]))

    def worth(self, answers):
        persons, questions = self.size
        total = 0
        for row, much in self.count.items():
            reply = tuple(answers[questions * person + row[person]] for person in range(persons))
            total += much if reply in self.won[row] else 0
        return total

    def plan(self, length, *row):
        if row not in self.all_plans():
            return [-22]
        return [self.worth(row), sum(self.count.values())]

    def best(self):
        most = max(self.worth(row) for row in self.all_plans())
        first = min(row for row in self.all_plans() if self.worth(row) == most)
        return [most, sum(self.count.values()), *first]

    def plans(self, much):
        return [len([row for row in self.all_plans() if self.worth(row) == much]), len(self.all_plans())]

    def spins(self, length, *row):
        if length > 6 or any(person >= self.size[0] for person in row):
            return [-22]
        self.place(row)
        return [length]

    def link(self, i, j):
        if max(i, j) >= len(self.of):
            return [-2]
        if i == j:
            return [-22]
        if self.touched:
            return [-16]
        self.linked ^= {frozenset((i, j))}
        self.be_fresh()
        return [len(self.linked)]

    def fresh(self):
        self.be_fresh()
        return [len(self.of)]

    def sign_of(self, letters):
        """The sign with which these letters are sure, or None."""
        for taken in product((0, 1), repeat=len(self.of)):
            sign, made = product_of_all([one for one, at in zip(self.known, taken) if at], len(self.of))
            if made == tuple(letters):
                return sign
        return None

    def are_letters(self, letters):
        return len(letters) == len(self.of) and all(letter < 4 for letter in letters)

    def sure(self, length, *letters):
        if not self.are_letters(letters):
            return [-22]
        sign = self.sign_of(letters)
        return [-33 if sign is None else sign]

    def measure(self, outcome, length, *letters):
        if not self.are_letters(letters) or outcome not in (0, 1):
            return [-22]
        sign = self.sign_of(letters)
        if sign is not None:
            return [2 if sign == outcome else -33]
        found = (outcome, letters)
        others = [place for place, one in enumerate(self.known) if not go_together(one, found)]
        gone = self.known[others[0]]
        for place in others[1:]:
            self.known[place] = product_of_all([self.known[place], gone], len(self.of))
        self.known[others[0]] = found
        self.touched = 1
        return [1]

    def mine(self, person, question, sign, length, *letters):
        if (person, question) not in self.own:
            return [-2]
        if sign not in (0, 1) or not self.are_letters(letters):
            return [-22]
        if any(letter and owner != person for letter, owner in zip(letters, self.of)):
            return [-22]
        self.own[(person, question)] = (sign, letters)
        return [0]

    def sum_of(self, row, some):
        """The sum of these persons' answers where it's sure, or None."""
        persons = [person for person in range(self.size[0]) if some[person]]
        sign, letters = product_of_all([self.own[(person, row[person])] for person in persons], len(self.of))
        found = self.sign_of(letters)
        return None if found is None else (found + sign) % 2

    def chances_at(self, row):
        sums = {some: self.sum_of(row, some) for some in self.replies().values()}
        chances = {}
        for reply in self.replies().values():
            right = wrong = 0
            for some, known in sums.items():
                if known is not None:
                    agrees = sum(answer for answer, one in zip(reply, some) if one) % 2 == known
                    right += agrees
                    wrong += not agrees
            chances[reply] = right - wrong
        return chances

    def taken_apart(self, both):
        """A row that's asked, and a row of 0 and 1, or None."""
        row, replied = both[:self.size[0]], both[self.size[0]:]
        return (row, replied) if row in self.count and replied in self.replies().values() else None

    def chance(self, length, *both):
        if self.taken_apart(both) is None:
            return [-22]
        row, reply = self.taken_apart(both)
        return [self.chances_at(row)[reply], 2 ** self.size[0], 1 if reply in self.won[row] else 0]

    def parity(self, length, *both):
        if self.taken_apart(both) is None:
            return [-22]
        known = self.sum_of(*self.taken_apart(both))
        return [0 if known is None else 1 + known]

    def value(self):
        total = 0
        for row, much in self.count.items():
            chances = self.chances_at(row)
            total += much * sum(chances[reply] for reply in self.won[row])
        return [total] + [2 ** self.size[0] * number for number in self.best()[1::-1]]

    def row(self, length, *row):
        if row not in self.count:
            return [-22]
        return [self.count[row], sum(2 ** number for number, reply in self.replies().items() if reply in self.won[row])]

    def state(self):
        return [*self.size, len(self.of), len(self.linked), self.touched, *self.of]


class Maker:
    """Makes calls, most of them as told, some not; the same ones each time."""

    def __init__(self, seed):
        self.chance = random.Random(seed)
        self.size = (2, 2)
        self.owners = []
        self.told = []

    def number(self, below):
        """Mostly one below, at times at or beyond it."""
        if self.chance.random() < 0.04:
            return self.chance.choice([below, below + 1, 2 ** 31, MOST])
        return self.chance.randrange(below)

    def row(self, length, below, longest):
        if self.chance.random() < 0.04:
            length = self.chance.randrange(longest + 1)
        return [self.number(below) for k in range(length)]

    def any_begin(self):
        size = self.chance.choice([(2, 1), (2, 2), (2, 3), (3, 1), (3, 2), (4, 1), (4, 2), (3, 3), (1, 2), (2, 4)])
        if size not in [(3, 3), (1, 2), (2, 4)]:
            self.size = size
            self.owners = []
        return begin(*size)

    def any_spins(self):
        row = self.row(self.chance.choice([0, 1, 2, 3, 3, 4, 4, 5, 6]), self.size[0], 12)
        if len(row) <= 6 and all(person < self.size[0] for person in row):
            self.owners = row
        return spins(row)

    def letters(self, person=None):
        """Letters for each spin, or for this person's alone."""
        letters = self.row(len(self.owners), 4, 10)
        # With few letters more are sure.
        if self.chance.random() < 0.4:
            letters = [letter if self.chance.random() < 0.4 else 0 for letter in letters]
        if person is not None and self.chance.random() < 0.95:
            letters = [letter if owner == person else 0 for letter, owner in zip(letters, self.owners)]
        return letters

    def letters_told_before(self):
        """Letters that were measured, or what those of two make together: more often sure, with either sign."""
        if len(self.told) < 2:
            return self.letters()
        one, other = self.told[-1], self.chance.choice(self.told[-3:])
        if one == other or len(one) != len(other):
            return one
        return [first ^ second for first, second in zip(one, other)] if max(one + other, default=0) < 4 else one

    def any_mine(self):
        person = self.number(self.size[0])
        return mine(person, self.number(self.size[1]), self.number(2), self.letters(person))

    def asked(self):
        return self.row(self.size[0], self.size[1], 10)

    def call(self):
        persons, questions = self.size
        names = ["wins", "odd", "counts"] * 3 + ["plan", "best", "plans", "begin", "spins", "row", "state", "value"]
        names += ["fresh"] * 2 + ["link", "sure", "measure", "chance", "parity", "mine"] * 6
        name = self.chance.choice(names)
        # These two make all new, so they're rare.
        if name in ["begin", "spins"] and self.chance.random() < 0.5:
            name = "state"
        if name == "begin":
            return self.any_begin()
        if name == "wins":
            return wins(self.number(2 ** (2 ** persons)), self.asked())
        if name == "odd":
            return odd(self.number(2), self.asked())
        if name == "counts":
            return counts(self.number(self.chance.choice([3, 100])), self.asked())
        if name == "plan":
            return plan(self.row(persons * questions, 2, 12))
        if name == "plans":
            return plans(self.number(questions ** persons + 1))
        if name == "spins":
            return self.any_spins()
        if name == "link":
            return link(self.number(len(self.owners) + 1), self.number(max(len(self.owners), 1)))
        return self.call_of_measurements(name)

    def call_of_measurements(self, name):
        persons = self.size[0]
        if name == "sure":
            return sure(self.letters_told_before() if self.chance.random() < 0.5 else self.letters())
        if name == "measure":
            self.told.append(self.letters())
            return measure(self.number(2), self.told[-1])
        if name == "mine":
            return self.any_mine()
        if name == "chance":
            return chance(self.asked(), self.row(persons, 2, 2))
        if name == "parity":
            return parity(self.asked(), self.row(persons, 2, 2))
        if name == "row":
            return row_call(self.asked())
        return {"best": BEST, "fresh": FRESH, "value": VALUE, "state": STATE}[name]

    def line(self):
        """A call ahead of any begin, a game with spins and links and each one's measurements, then any calls."""
        calls = [self.call()]
        self.size = self.chance.choice(SIZES)
        self.owners = [self.chance.randrange(self.size[0]) for k in range(self.chance.choice([2, 3, 4, 5, 6]))]
        calls += [begin(*self.size), spins(self.owners)]
        last_spin = len(self.owners)
        calls += [link(i, j) for j in range(last_spin) for i in range(j) if self.chance.random() < 0.6]
        calls += [self.any_mine() for k in range(8)]
        return calls + [self.call() for k in range(90)]


class AgainstTheWords(unittest.TestCase):

    def test_many_lines(self):
        for seed in range(100):
            calls = Maker(seed).line()
            words = Words()
            due = [words.answer(call) for call in calls]
            found = run(*calls)
            for k, call in enumerate(calls):
                self.assertEqual(found[k], due[k], (seed, k, calls[:k + 1]))


if __name__ == "__main__":
    unittest.main()
