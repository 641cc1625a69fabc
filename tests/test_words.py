"""Long lines of calls, against a slow reading of the document that shares no code with the program."""

import random
import unittest
from itertools import product

from tests.support import BEST, MOST, begin, counts, link, odd, plan, plans, run, spins, wins


class Words:
    """The document's words, as directly as they can be put."""

    def __init__(self):
        self.size = None

    def answer(self, call):
        name = ["begin", "wins", "odd", "counts", "plan", "best", "plans", "spins", "link"][call[0]]
        if name != "begin" and self.size is None:
            return [-11]
        return getattr(self, name)(*call[1:])

    def begin(self, persons, questions):
        if persons not in (2, 3, 4) or questions not in (1, 2, 3) or persons * questions > 8:
            return [-22]
        self.size = (persons, questions)
        self.count = {row: 1 for row in product(range(questions), repeat=persons)}
        self.won = {row: set() for row in self.count}
        self.of = []
        self.linked = set()
        return [0]

    def replies(self):
        """All rows of answers, by their numbers."""
        persons = self.size[0]
        return {sum(2 ** k for k in range(persons) if row[k]): row for row in product((0, 1), repeat=persons)}

    def wins(self, which, length, *row):
        if row not in self.count or which >= 2 ** len(self.replies()):
            return [-22]
        earlier = sum(2 ** number for number, reply in self.replies().items() if reply in self.won[row])
        self.won[row] = {reply for number, reply in self.replies().items() if which // 2 ** number % 2}
        return [earlier]

    def odd(self, parity, length, *row):
        if row not in self.count or parity not in (0, 1):
            return [-22]
        self.won[row] = {reply for reply in self.replies().values() if sum(reply) % 2 == parity}
        return [sum(2 ** number for number, reply in self.replies().items() if reply in self.won[row])]

    def counts(self, much, length, *row):
        if row not in self.count or much > 99:
            return [-22]
        earlier = self.count[row]
        self.count[row] = much
        return [earlier]

    def all_plans(self):
        return list(product((0, 1), repeat=self.size[0] * self.size[1]))

    def worth(self, answers):
        persons, questions = self.size
        total = 0
        for row, much in self.count.items():
            reply = tuple(answers[questions * person + row[person]] for person in range(persons))
            total += much if reply in self.won[row] else 0
        return total

    def plan(self, length, *row):
        if row not in self.all_plans():
            return [-22]
        return [self.worth(row), sum(self.count.values())]

    def best(self):
        most = max(self.worth(row) for row in self.all_plans())
        first = min(row for row in self.all_plans() if self.worth(row) == most)
        return [most, sum(self.count.values()), *first]

    def plans(self, much):
        return [len([row for row in self.all_plans() if self.worth(row) == much]), len(self.all_plans())]

    def spins(self, length, *row):
        if length > 6 or any(person >= self.size[0] for person in row):
            return [-22]
        self.of = row
        self.linked = set()
        return [length]

    def link(self, i, j):
        if max(i, j) >= len(self.of):
            return [-2]
        if i == j:
            return [-22]
        self.linked ^= {frozenset((i, j))}
        return [len(self.linked)]


class Maker:
    """Makes calls, most of them as told, some not; the same ones each time."""

    def __init__(self, seed):
        self.chance = random.Random(seed)
        self.size = (2, 2)

    def number(self, below):
        """Mostly one below, at times at or beyond it."""
        if self.chance.random() < 0.04:
            return self.chance.choice([below, below + 1, 2 ** 31, MOST])
        return self.chance.randrange(below)

    def row(self, length, below, longest):
        if self.chance.random() < 0.04:
            length = self.chance.randrange(longest + 1)
        return [self.number(below) for k in range(length)]

    def any_begin(self):
        size = self.chance.choice([(2, 1), (2, 2), (2, 3), (3, 1), (3, 2), (4, 1), (4, 2), (3, 3), (1, 2), (2, 4)])
        if size not in [(3, 3), (1, 2), (2, 4)]:
            self.size = size
        return begin(*size)

    def asked(self):
        return self.row(self.size[0], self.size[1], 10)

    def call(self):
        persons, questions = self.size
        name = self.chance.choice(["wins"] * 6 + ["odd"] * 6 + ["counts"] * 6 + ["plan"] * 4 + ["spins", "begin"]
                                  + ["best", "plans"] * 2 + ["link"] * 6)
        if name == "begin":
            return self.any_begin() if self.chance.random() < 0.3 else BEST
        if name == "wins":
            return wins(self.number(2 ** (2 ** persons)), self.asked())
        if name == "odd":
            return odd(self.number(2), self.asked())
        if name == "counts":
            return counts(self.number(self.chance.choice([3, 100])), self.asked())
        if name == "plan":
            return plan(self.row(persons * questions, 2, 12))
        if name == "best":
            return BEST
        if name == "plans":
            return plans(self.number(questions ** persons + 1))
        if name == "spins":
            return spins(self.row(self.chance.randrange(7), persons, 12))
        return link(self.number(6), self.number(6))


class AgainstTheWords(unittest.TestCase):

    def test_many_lines(self):
        for seed in range(60):
            maker = Maker(seed)
            calls = [maker.call()] + [maker.any_begin()] + [maker.call() for k in range(78)]
            words = Words()
            due = [words.answer(call) for call in calls]
            found = run(*calls)
            for k, call in enumerate(calls):
                self.assertEqual(found[k], due[k], (seed, k, calls[:k + 1]))


if __name__ == "__main__":
    unittest.main()
