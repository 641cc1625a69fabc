"""What's sure and all chances, against rows of amplitudes: another way to reckon the same, by whole numbers."""

import random
import unittest

from tests.support import (FRESH, NOT_SURE_SO, SIZES, begin, bits, chance, link, measure, mine, parity, rows_asked, run,
                           spins, sure)


def times_letters(amplitudes, letters):
    """The amplitudes once these letters have been applied; a spin's bit counts 2 to the power of the spin."""
    for spin, letter in enumerate(letters):
        bit = 1 << spin
        if letter == 1:
            amplitudes = [amplitudes[place ^ bit] for place in range(len(amplitudes))]
        if letter == 2:
            amplitudes = [amplitudes[place ^ bit] * (1j if place & bit else -1j) for place in range(len(amplitudes))]
        if letter == 3:
            amplitudes = [-amplitude if place & bit else amplitude for place, amplitude in enumerate(amplitudes)]
    return amplitudes


def shared_at_first(spins_there, links):
    """All amplitudes alike, but for a sign where both of two that are linked are 1."""
    amplitudes = []
    for place in range(1 << spins_there):
        both = [1 for i, j in links if place >> i & 1 and place >> j & 1]
        amplitudes.append(complex((-1) ** len(both)))
    return amplitudes


def part_with(amplitudes, outcome, letters):
    """The part of the amplitudes in which the letters have this outcome, twice as great so as to stay whole."""
    other = times_letters(amplitudes, letters)
    return [one + two * (-1) ** outcome for one, two in zip(amplitudes, other)]


def weight(amplitudes):
    return int(sum(amplitude.real ** 2 + amplitude.imag ** 2 for amplitude in amplitudes))


def chance_of_parts(amplitudes, outcomes, rows_of_letters):
    """The chance that all these have these outcomes, times 2 to the power of how many they are."""
    part = amplitudes
    for outcome, letters in zip(outcomes, rows_of_letters):
        part = part_with(part, outcome, letters)
    # Each part is twice as great, so the weight is four times the chance for each outcome; two of these are due.
    scaled, rest = divmod(weight(part), weight(amplitudes) << len(outcomes))
    assert rest == 0
    return scaled


class AgainstAmplitudes(unittest.TestCase):

    def drawn(self, draw):
        """A game with spins and links: its calls, whose the spins are, their amplitudes."""
        persons, questions = draw.choice(SIZES)
        owners = [draw.randrange(persons) for spin in range(draw.choice([0, 1, 2, 3, 3, 4, 4, 5, 6]))]
        links = [(i, j) for j in range(len(owners)) for i in range(j) if draw.random() < 0.6]
        calls = [begin(persons, questions), spins(owners)] + [link(i, j) for i, j in links]
        return persons, questions, owners, calls, shared_at_first(len(owners), links)

    def test_measured_one_after_another(self):
        for seed in range(60):
            draw = random.Random(seed)
            persons, questions, owners, calls, amplitudes = self.drawn(draw)
            at_first = amplitudes
            for step in range(12):
                letters = [draw.randrange(4) for spin in owners]
                outcome = draw.randrange(2)
                found = run(*calls, sure(letters), measure(outcome, letters))[-2:]
                part = part_with(amplitudes, outcome, letters)
                # The whole part is four times the weight if it's sure, none if the other outcome is.
                share = weight(part) // weight(amplitudes)
                self.assertEqual(found, {4: [[outcome], [2]], 2: [NOT_SURE_SO, [1]],
                                         0: [[1 - outcome], NOT_SURE_SO]}[share], (seed, step))
                calls.append(measure(outcome, letters))
                if share > 0:
                    # Divided by one of its own, so that the amplitudes stay small and whole.
                    unit = [amplitude for amplitude in part if amplitude != 0][0]
                    amplitudes = [amplitude / unit for amplitude in part]
                if draw.random() < 0.05:
                    calls.append(FRESH)
                    amplitudes = at_first

    def test_chances_and_sums(self):
        for seed in range(60):
            draw = random.Random(seed)
            persons, questions, owners, calls, amplitudes = self.drawn(draw)
            own = {}
            for person in range(persons):
                for question in range(questions):
                    letters = [draw.randrange(4) if owner == person else 0 for owner in owners]
                    own[(person, question)] = (draw.randrange(2), letters)
                    calls.append(mine(person, question, *own[(person, question)]))
            row = draw.choice(rows_asked(persons, questions))
            signs = [own[(person, question)][0] for person, question in enumerate(row)]
            letters = [own[(person, question)][1] for person, question in enumerate(row)]
            every = bits(persons)
            found = run(*calls, *[chance(row, answered) for answered in every], *[parity(row, some) for some in every])
            found = found[len(calls):]
            due = {}
            for answered, told in zip(every, found):
                outcomes = [(answer + sign) % 2 for answer, sign in zip(answered, signs)]
                due[tuple(answered)] = chance_of_parts(amplitudes, outcomes, letters)
                self.assertEqual(told, [due[tuple(answered)], 2 ** persons, 0], (seed, row, answered))
            for some, told in zip(every, found[len(every):]):
                odd_ones = sum(its for answered, its in due.items()
                               if sum(answer * one for answer, one in zip(answered, some)) % 2 == 1)
                self.assertEqual(told, {0: [1], 2 ** persons // 2: [0], 2 ** persons: [2]}[odd_ones], (seed, row, some))


if __name__ == "__main__":
    unittest.main()
