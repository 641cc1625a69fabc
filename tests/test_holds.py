"""What holds, a to g, over games that are drawn: the same ones each time."""

import random
import unittest
from itertools import product

from tests.support import (BEST, MOST, N, NONE_SUCH, NOT_AS_TOLD, NOT_SURE_SO, SIZES, SOMETHING_MEASURED, VALUE, X, Y,
                           Z, all_letters, begin, bits, chance, counts, link, looks, measure, mine, odd, parity, plan,
                           row_call, rows_asked, run, spins, sure, wins)


class Drawn:
    """A game that is drawn: all is set, and something may be measured."""

    def __init__(self, seed, most_spins=6, measured=2, size=None):
        self.draw = random.Random(seed)
        self.persons, self.questions = size or self.draw.choice(SIZES)
        self.rows = rows_asked(self.persons, self.questions)
        self.spins = self.draw.randrange(most_spins + 1)
        self.owners = [self.draw.randrange(self.persons) for spin in range(self.spins)]
        self.calls = [begin(self.persons, self.questions), spins(self.owners)]
        self.calls += [link(i, j) for j in range(self.spins) for i in range(j) if self.draw.random() < 0.6]
        for row in self.rows:
            self.calls.append(wins(self.draw.randrange(2 ** 2 ** self.persons), row))
            self.calls.append(counts(self.draw.randrange(100), row))
        self.calls += [measure(outcome, self.letters()) for k in range(measured) for outcome in [0, 1]]

    def letters(self):
        return [self.draw.randrange(4) for spin in range(self.spins)]

    def own(self):
        """A measurement for each person and question, most with letters on own spins."""
        calls = []
        for person in range(self.persons):
            for question in range(self.questions):
                letters = [self.draw.randrange(4) if owner == person else N for owner in self.owners]
                calls.append(mine(person, question, self.draw.randrange(2), letters))
        return calls

    def answered(self, *calls):
        return run(*self.calls, *calls)[len(self.calls):]


def of_some(answered, some):
    return tuple(answer for answer, one in zip(answered, some) if one)


def go_together(one, other):
    return sum(a != b and 0 not in (a, b) for a, b in zip(one, other)) % 2 == 0


class ChancesAreChances(unittest.TestCase):

    def test_they_come_to_all_and_agree_with_what_is_sure(self):
        for seed in range(40):
            game = Drawn(seed)
            game.calls += game.own()
            for row in game.draw.sample(game.rows, min(4, len(game.rows))):
                every = bits(game.persons)
                found = game.answered(*[chance(row, answered) for answered in every],
                                      *[parity(row, some) for some in every])
                chances = [told[0] for told in found[:len(every)]]
                self.assertEqual([told[1] for told in found[:len(every)]], [len(every)] * len(every))
                self.assertEqual(sum(chances), len(every), (seed, row))
                self.assertTrue(all(told >= 0 for told in chances), (seed, row))
                for some, told in zip(every, found[len(every):]):
                    for answered, its_chance in zip(every, chances):
                        if told[0] != 0 and sum(of_some(answered, some)) % 2 != told[0] - 1:
                            self.assertEqual(its_chance, 0, (seed, row, some, answered))

    def test_what_is_not_sure_is_even(self):
        for seed in range(40, 60):
            game = Drawn(seed)
            game.calls += game.own()
            row = game.draw.choice(game.rows)
            every = bits(game.persons)
            chances = [told[0] for told in game.answered(*[chance(row, answered) for answered in every])]
            for some in every:
                told = game.answered(parity(row, some))[0][0]
                odd_ones = sum(its for its, answered in zip(chances, every) if sum(of_some(answered, some)) % 2 == 1)
                self.assertEqual(odd_ones, {0: len(every) // 2, 1: 0, 2: len(every)}[told])


class NobodyLearns(unittest.TestCase):

    def test_what_others_are_asked_is_all_the_same(self):
        for seed in range(30):
            game = Drawn(seed, size=random.Random(seed).choice([(2, 2), (2, 3), (3, 2), (4, 2)]))
            game.calls += game.own()
            every = bits(game.persons)
            chances = {}
            for row in game.rows:
                found = game.answered(*[chance(row, answered) for answered in every])
                chances[tuple(row)] = {tuple(answered): told[0] for answered, told in zip(every, found)}
            for some in every:
                seen = {}
                for row, told in chances.items():
                    together = {}
                    for answered, its_chance in told.items():
                        own = of_some(answered, some)
                        together[own] = together.get(own, 0) + its_chance
                    self.assertEqual(seen.setdefault(of_some(row, some), together), together, (seed, row, some))


class WithoutLetters(unittest.TestCase):

    def test_they_are_plans(self):
        for seed in range(60):
            game = Drawn(seed)
            length = game.persons * game.questions
            signs = [game.draw.randrange(2) for k in range(length)]
            own = [mine(k // game.questions, k % game.questions, sign, [N] * game.spins)
                   for k, sign in enumerate(signs)]
            found = game.answered(*own, VALUE, plan(signs))[length:]
            self.assertEqual(found[0][:2], [number * 2 ** game.persons for number in found[1]], seed)


class NoneWinsMore(unittest.TestCase):

    def test_plans_than_the_best_and_spins_than_all(self):
        for seed in range(60):
            game = Drawn(seed)
            rows = [[game.draw.randrange(2) for k in range(game.persons * game.questions)] for k in range(20)]
            found = game.answered(*game.own(), VALUE, BEST, *[plan(row) for row in rows])
            found = found[game.persons * game.questions:]
            value, best, others = found[0], found[1], found[2:]
            whole = 2 ** game.persons
            self.assertEqual(value[1:], [best[1] * whole, best[0] * whole])
            self.assertLessEqual(value[0], value[1])
            self.assertGreaterEqual(value[0], 0)
            for told in others:
                self.assertLessEqual(told[0], best[0])

    def test_value_is_what_the_chances_come_to(self):
        for seed in range(30):
            game = Drawn(seed, size=random.Random(seed).choice([(2, 1), (2, 2), (2, 3), (3, 1), (3, 2), (4, 1)]))
            game.calls += game.own()
            pairs = list(product(game.rows, bits(game.persons)))
            found = game.answered(VALUE, *[row_call(row) for row in game.rows], *[chance(*pair) for pair in pairs])
            weights = {tuple(row): told[0] for row, told in zip(game.rows, found[1:])}
            total = 0
            for (row, answered), told in zip(pairs, found[1 + len(game.rows):]):
                total += weights[tuple(row)] * told[0] * told[2]
            self.assertEqual(found[0][0], total, seed)


class WhatIsSure(unittest.TestCase):

    def sure_ones(self, game, *calls):
        every = all_letters(game.spins)
        found = game.answered(*calls, *[sure(letters) for letters in every])[len(calls):]
        return {tuple(letters): told[0] for letters, told in zip(every, found) if told != NOT_SURE_SO}

    def test_as_many_as_there_are_spins_and_all_together(self):
        # So many that none is the product of others have 2 to the power of how many products.
        for seed in range(40):
            game = Drawn(seed, most_spins=4, size=(2, 2))
            ones = self.sure_ones(game)
            self.assertEqual(len(ones), 2 ** game.spins, seed)
            for one in ones:
                for other in ones:
                    self.assertTrue(go_together(one, other), (seed, one, other))

    def test_what_is_measured_and_what_goes_together_with_it(self):
        for seed in range(60):
            game = Drawn(seed, most_spins=4, measured=seed % 3, size=(2, 2))
            before = self.sure_ones(game)
            letters, outcome = tuple(game.letters()), seed % 2
            told = game.answered(measure(outcome, letters))[0]
            after = self.sure_ones(game, measure(outcome, letters))
            if letters in before:
                self.assertEqual(told, [2] if before[letters] == outcome else NOT_SURE_SO)
                self.assertEqual(after, before)
            else:
                self.assertEqual(told, [1])
                self.assertEqual(after[letters], outcome)
                for one, sign in before.items():
                    if go_together(one, letters):
                        self.assertEqual(after[one], sign)
                    else:
                        self.assertNotIn(one, after)

    def test_an_even_chance_if_not_all_go_together(self):
        for seed in range(40):
            game = Drawn(seed, most_spins=4, size=(2, 1))
            ones = self.sure_ones(game)
            for letters in product(range(4), repeat=game.spins):
                self.assertEqual(letters in ones, all(go_together(one, letters) for one in ones), (seed, letters))


class RefusedChangesNothing(unittest.TestCase):

    def test_each_refusal_of_each_call(self):
        base = [begin(3, 2), spins([0, 1, 2]), link(0, 1), link(1, 2), mine(0, 0, 1, [X, N, N]),
                mine(1, 1, 0, [N, Y, N]), mine(2, 0, 1, [N, N, Z])]
        for k, row in enumerate(rows_asked(3, 2)):
            base += [wins(k * 30 + 1, row), counts(k, row)]
        base.append(measure(1, [Z, N, N]))
        refused = [(begin(3, 3), NOT_AS_TOLD), (begin(1, 1), NOT_AS_TOLD), (wins(256, [0, 0, 0]), NOT_AS_TOLD),
                   (wins(1, [0, 0]), NOT_AS_TOLD), (odd(2, [0, 0, 0]), NOT_AS_TOLD), (odd(0, [0, 0, 2]), NOT_AS_TOLD),
                   (counts(100, [0, 0, 0]), NOT_AS_TOLD), (counts(5, []), NOT_AS_TOLD), (plan([0] * 5), NOT_AS_TOLD),
                   (spins([0] * 7), NOT_AS_TOLD), (spins([3]), NOT_AS_TOLD), (link(0, 3), NONE_SUCH),
                   (link(1, 1), NOT_AS_TOLD), (link(0, 1), SOMETHING_MEASURED), (link(0, 2), SOMETHING_MEASURED),
                   (sure([0, 0]), NOT_AS_TOLD), (sure([0, 0, 4]), NOT_AS_TOLD), (sure([X, N, N]), NOT_SURE_SO),
                   (measure(2, [Z, N, N]), NOT_AS_TOLD), (measure(0, [Z, N, N]), NOT_SURE_SO),
                   (measure(0, [Y, Y]), NOT_AS_TOLD), (measure(0, [5, Y, Y]), NOT_AS_TOLD),
                   (mine(3, 0, 0, [N, N, N]), NONE_SUCH), (mine(0, 2, 0, [N, N, N]), NONE_SUCH),
                   (mine(0, 0, 2, [N, N, N]), NOT_AS_TOLD), (mine(0, 0, 0, [N, X, N]), NOT_AS_TOLD),
                   (chance([0, 0, 0], [0, 0, 2]), NOT_AS_TOLD), (chance([0, 0, 2], [0, 0, 0]), NOT_AS_TOLD),
                   (parity([0, 0, 0], [0, 0]), NOT_AS_TOLD), (parity([0, MOST, 0], [0, 0, 0]), NOT_AS_TOLD),
                   (row_call([0, 0]), NOT_AS_TOLD), (row_call([0, 0, 2]), NOT_AS_TOLD)]
        shown = looks(3, 2, 3)
        due = run(*base, *shown)[-len(shown):]
        for call, refusal in refused:
            found = run(*base, call, *shown)
            self.assertEqual(found[-len(shown) - 1], refusal, call)
            self.assertEqual(found[-len(shown):], due, call)
        found = run(*base, *[call for call, refusal in refused], *shown)
        self.assertEqual(found[-len(shown):], due)


if __name__ == "__main__":
    unittest.main()
