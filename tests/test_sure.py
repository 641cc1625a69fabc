"""Promise 3: fresh, sure, measure."""

import unittest

from tests.support import (FRESH, MOST, N, NOT_AS_TOLD, NOT_SURE_SO, STATE, X, Y, Z, all_letters, begin, last,
                           letters_at, link, looks, measure, mine, parity, run, spins, sure, wins)

TWO = [begin(2, 2), spins([0, 1]), link(0, 1)]
ROW_OF_THREE = [begin(3, 2), spins([0, 1, 2]), link(0, 1), link(1, 2)]
RING_OF_FOUR = [begin(4, 2), spins([0, 1, 2, 3]), link(0, 1), link(1, 2), link(2, 3), link(3, 0)]


def wrong_letters(spins_there, longest):
    """Rows that aren't letters for so many spins."""
    rows = [[0] * length for length in range(longest + 1) if length != spins_there]
    for spin in range(spins_there):
        for letter in [4, 5, 255, 256, 2 ** 31, 2 ** 32 - 4, MOST]:
            rows.append(letters_at(spins_there, {spin: letter}))
    return rows


def signs_of_all(base, spins_there):
    """What sure answers for every row of letters, by these."""
    every = all_letters(spins_there)
    found = run(*base, *[sure(letters) for letters in every])[len(base):]
    return {tuple(letters): told for letters, told in zip(every, found) if told != NOT_SURE_SO}


class Sure(unittest.TestCase):

    def test_no_spins(self):
        self.assertEqual(run(begin(2, 1), sure([]), spins([0]), spins([]), sure([])), [[0], [0], [1], [0], [0]])

    def test_no_letters(self):
        for number in range(7):
            self.assertEqual(last(begin(2, 1), spins([0] * number), sure([N] * number)), [0])

    def test_a_spin_that_nobodys_linked_with(self):
        found = run(begin(2, 1), spins([1]), sure([N]), sure([X]), sure([Y]), sure([Z]))
        self.assertEqual(found[2:], [[0], [0], NOT_SURE_SO, NOT_SURE_SO])
        base = [begin(2, 1), spins([1, 0, 1]), link(0, 2)]
        self.assertEqual(last(*base, sure([N, X, N])), [0])
        self.assertEqual(last(*base, sure([X, X, Z])), [0])
        self.assertEqual(last(*base, sure([X, Z, Z])), NOT_SURE_SO)

    def test_two(self):
        due = {(N, N): [0], (X, Z): [0], (Z, X): [0], (Y, Y): [0]}
        self.assertEqual(signs_of_all(TWO, 2), due)

    def test_two_that_are_not_linked(self):
        due = {(N, N): [0], (X, N): [0], (N, X): [0], (X, X): [0]}
        self.assertEqual(signs_of_all([begin(2, 1), spins([1, 1])], 2), due)

    def test_three_in_a_row(self):
        due = {(N, N, N): [0], (X, Z, N): [0], (Z, X, Z): [0], (N, Z, X): [0], (Y, Y, Z): [0], (X, N, X): [0],
               (Z, Y, Y): [0], (Y, X, Y): [1]}
        self.assertEqual(signs_of_all(ROW_OF_THREE, 3), due)

    def test_three_all_linked(self):
        due = {(N, N, N): [0], (X, Z, Z): [0], (Z, X, Z): [0], (Z, Z, X): [0], (Y, Y, N): [0], (Y, N, Y): [0],
               (N, Y, Y): [0], (X, X, X): [1]}
        self.assertEqual(signs_of_all(ROW_OF_THREE + [link(0, 2)], 3), due)

    def test_four_in_a_ring(self):
        due = {(N, N, N, N): [0], (X, Z, N, Z): [0], (Z, X, Z, N): [0], (N, Z, X, Z): [0], (Z, N, Z, X): [0],
               (Y, Y, Z, Z): [0], (Z, Y, Y, Z): [0], (Z, Z, Y, Y): [0], (Y, Z, Z, Y): [0],
               (X, N, X, N): [0], (N, X, N, X): [0],
               (Y, X, Y, N): [1], (N, Y, X, Y): [1], (Y, N, Y, X): [1], (X, Y, N, Y): [1],
               (X, X, X, X): [0]}
        self.assertEqual(signs_of_all(RING_OF_FOUR, 4), due)

    def test_six_in_a_star(self):
        base = [begin(2, 1), spins([0, 1, 0, 1, 0, 1])] + [link(0, k) for k in range(1, 6)]
        self.assertEqual(last(*base, sure([X, Z, Z, Z, Z, Z])), [0])
        self.assertEqual(last(*base, sure([Y, Y, Z, Z, Z, Z])), [0])
        self.assertEqual(last(*base, sure([X, Y, Y, Z, Z, Z])), [1])
        self.assertEqual(last(*base, sure([Y, Y, Y, Y, Z, Z])), [1])
        self.assertEqual(last(*base, sure([X, Y, Y, Y, Y, Z])), [0])
        self.assertEqual(last(*base, sure([Y, Y, Y, Y, Y, Y])), [0])
        self.assertEqual(last(*base, sure([Y, X, X, X, X, X])), NOT_SURE_SO)

    def test_who_has_them_is_all_the_same(self):
        for owners in [[0, 0], [1, 1], [1, 0]]:
            self.assertEqual(last(begin(2, 2), spins(owners), link(0, 1), sure([Y, Y])), [0])

    def test_wrong_letters(self):
        for base, number in [(TWO, 2), (ROW_OF_THREE, 3), ([begin(2, 1)], 0), ([begin(2, 1), spins([0] * 6)], 6)]:
            for letters in wrong_letters(number, 12):
                self.assertEqual(last(*base, sure(letters)), NOT_AS_TOLD)

    def test_nothing_is_changed(self):
        base = ROW_OF_THREE + [measure(1, [Z, Z, Z])]
        shown = looks(3, 2, 3)
        due = run(*base, *shown)[-len(shown):]
        for letters in [[Z, Z, Z], [X, X, X], [N, N, N], [4, 0, 0], []]:
            self.assertEqual(run(*base, sure(letters), *shown)[-len(shown):], due)


class Measure(unittest.TestCase):

    def test_an_even_chance_becomes_sure(self):
        for outcome in [0, 1]:
            for letter in [Y, Z]:
                found = run(begin(2, 1), spins([0]), measure(outcome, [letter]), sure([letter]), sure([X]),
                            measure(outcome, [letter]))
                self.assertEqual(found[2:], [[1], [outcome], NOT_SURE_SO, [2]])

    def test_sure_and_asked_the_other_way(self):
        found = run(*TWO, measure(1, [Y, Y]), measure(0, [Y, Y]), measure(1, [Z, Z]), measure(0, [Z, Z]),
                    measure(1, [X, X]), measure(0, [X, X]))
        self.assertEqual(found[3:], [NOT_SURE_SO, [2], [1], NOT_SURE_SO, NOT_SURE_SO, [2]])

    def test_no_letters(self):
        for number in range(7):
            base = [begin(2, 1), spins([0] * number)]
            found = run(*base, measure(0, [N] * number), measure(1, [N] * number), STATE)
            self.assertEqual(found[2:], [[2], NOT_SURE_SO, [2, 1, number, 0, 0] + [0] * number])

    def test_the_same_twice(self):
        found = run(*TWO, measure(1, [Z, N]), measure(1, [Z, N]), measure(0, [Z, N]), measure(1, [Z, N]), sure([Z, N]),
                    sure([N, X]))
        self.assertEqual(found[3:], [[1], [2], NOT_SURE_SO, [2], [1], [1]])

    def test_what_goes_and_what_stays(self):
        # Of X Z and Z X only the first can't be measured together with Z on the first spin.
        for outcome in [0, 1]:
            due = {(N, N): [0], (Z, N): [outcome], (Z, X): [0], (N, X): [outcome]}
            self.assertEqual(signs_of_all(TWO + [measure(outcome, [Z, N])], 2), due)

    def test_others_are_taken_times_the_one_that_went(self):
        # X Z . goes, and . Z X becomes X . X.
        for outcome in [0, 1]:
            due = {(N, N, N): [0], (N, X, N): [outcome], (Z, X, Z): [0], (X, N, X): [0], (Z, N, Z): [outcome],
                   (X, X, X): [outcome], (Y, X, Y): [1], (Y, N, Y): [1 - outcome]}
            self.assertEqual(signs_of_all(ROW_OF_THREE + [measure(outcome, [N, X, N])], 3), due)

    def test_signs_are_taken_along(self):
        base = [begin(2, 1), spins([0, 1]), measure(1, [Z, N]), measure(1, [N, Z])]
        self.assertEqual(signs_of_all(base, 2), {(N, N): [0], (Z, N): [1], (N, Z): [1], (Z, Z): [0]})
        self.assertEqual(signs_of_all(base + [measure(1, [X, X])], 2),
                         {(N, N): [0], (Z, Z): [0], (X, X): [1], (Y, Y): [0]})
        self.assertEqual(signs_of_all(base + [measure(0, [X, X])], 2),
                         {(N, N): [0], (Z, Z): [0], (X, X): [0], (Y, Y): [1]})
        self.assertEqual(signs_of_all(base + [measure(1, [X, X]), measure(0, [Z, N])], 2),
                         {(N, N): [0], (Z, N): [0], (N, Z): [0], (Z, Z): [0]})

    def test_one_after_another(self):
        found = run(begin(2, 1), spins([1]), measure(0, [X]), measure(1, [Y]), measure(1, [Z]), measure(0, [X]),
                    measure(1, [X]), measure(0, [Y]), sure([X]), sure([Y]), sure([Z]))
        self.assertEqual(found[2:], [[2], [1], [1], [1], NOT_SURE_SO, [1], NOT_SURE_SO, [0], NOT_SURE_SO])

    def test_the_last_of_six(self):
        base = [begin(2, 1), spins([0, 1, 0, 1, 0, 1])] + [link(k, k + 1) for k in range(5)]
        for spin in range(6):
            base.append(measure(spin % 2, letters_at(6, {spin: Z})))
        found = run(*base, *[sure(letters_at(6, {spin: Z})) for spin in range(6)], sure([Z] * 6), sure([X] + [N] * 5))
        self.assertEqual(found[7:13], [[1]] * 6)
        self.assertEqual(found[13:], [[0], [1], [0], [1], [0], [1], [1], NOT_SURE_SO])

    def test_two_that_were_not_linked_are_bound_by_measuring(self):
        base = [begin(2, 1), spins([0, 1]), measure(1, [Z, Z])]
        self.assertEqual(signs_of_all(base, 2), {(N, N): [0], (X, X): [0], (Z, Z): [1], (Y, Y): [0]})
        base = [begin(2, 1), spins([0, 1]), measure(0, [Z, Z])]
        self.assertEqual(signs_of_all(base, 2), {(N, N): [0], (X, X): [0], (Z, Z): [0], (Y, Y): [1]})

    def test_something_was_measured(self):
        found = run(*TWO, measure(0, [X, Z]), STATE, measure(1, [X, Z]), STATE, measure(1, [X, N]), STATE,
                    measure(1, [X, N]), measure(0, [X, N]), STATE)
        self.assertEqual([told[4] for told in found if len(told) == 7], [0, 0, 1, 1])

    def test_outcomes_that_are_none(self):
        for outcome in [2, 3, 255, 256, 2 ** 31, MOST - 1, MOST]:
            for letters in [[X, Z], [Z, Z], [N, N], [X], [4, 0]]:
                self.assertEqual(last(*TWO, measure(outcome, letters)), NOT_AS_TOLD)

    def test_wrong_letters(self):
        for base, number in [(TWO, 2), (ROW_OF_THREE, 3), ([begin(2, 1)], 0), ([begin(2, 1), spins([0] * 6)], 6)]:
            for letters in wrong_letters(number, 10):
                for outcome in [0, 1, 2]:
                    self.assertEqual(last(*base, measure(outcome, letters)), NOT_AS_TOLD)

    def test_a_refused_one_changes_nothing(self):
        shown = looks(3, 2, 3)
        for base in [ROW_OF_THREE, ROW_OF_THREE + [measure(1, [Z, N, N])]]:
            due = run(*base, *shown)[-len(shown):]
            for call, refusal in [(measure(1, [N, Z, X]), NOT_SURE_SO), (measure(1, [N, N, N]), NOT_SURE_SO),
                                  (measure(2, [Z, Z, Z]), NOT_AS_TOLD), (measure(0, [Z, Z]), NOT_AS_TOLD),
                                  (measure(0, [Z, Z, 4]), NOT_AS_TOLD), (measure(MOST, [N, N, N]), NOT_AS_TOLD)]:
                found = run(*base, call, *shown)
                self.assertEqual(found[-len(shown) - 1], refusal)
                self.assertEqual(found[-len(shown):], due)

    def test_a_sure_one_changes_nothing(self):
        shown = looks(3, 2, 3)
        due = run(*ROW_OF_THREE, *shown)[-len(shown):]
        for call in [measure(0, [X, N, X]), measure(1, [Y, X, Y]), measure(0, [N, N, N])]:
            found = run(*ROW_OF_THREE, call, *shown)
            self.assertEqual(found[-len(shown) - 1], [2])
            self.assertEqual(found[-len(shown):], due)

    def test_the_game_stays(self):
        base = ROW_OF_THREE + [wins(77, [0, 1, 0]), mine(0, 0, 1, [Z, N, N])]
        found = run(*base, measure(0, [Z, N, N]), wins(0, [0, 1, 0]), parity([0, 0, 0], [1, 0, 0]))
        self.assertEqual(found[-3:], [[1], [77], [2]])


class Fresh(unittest.TestCase):

    def test_how_many_spins(self):
        for number in range(7):
            self.assertEqual(last(begin(2, 1), spins([1] * number), FRESH), [number])
        self.assertEqual(last(begin(2, 1), FRESH), [0])

    def test_all_is_sure_that_is_sure_at_first(self):
        due = signs_of_all(ROW_OF_THREE, 3)
        measured = [measure(1, [Z, N, N]), measure(0, [N, Y, N]), measure(1, [X, X, N])]
        self.assertNotEqual(signs_of_all(ROW_OF_THREE + measured, 3), due)
        self.assertEqual(signs_of_all(ROW_OF_THREE + measured + [FRESH], 3), due)
        self.assertEqual(signs_of_all(ROW_OF_THREE + [FRESH, FRESH], 3), due)

    def test_nothing_was_measured(self):
        found = run(*TWO, measure(1, [Z, N]), STATE, FRESH, STATE, measure(1, [Z, N]))
        self.assertEqual(found[4:], [[2, 2, 2, 1, 1, 0, 1], [2], [2, 2, 2, 1, 0, 0, 1], [1]])

    def test_measurements_of_persons_stay(self):
        found = run(*TWO, mine(0, 1, 1, [X, N]), mine(1, 0, 0, [N, Z]), measure(0, [Z, N]), parity([1, 0], [1, 1]),
                    FRESH, parity([1, 0], [1, 1]))
        self.assertEqual(found[-3:], [[0], [2], [2]])

    def test_the_game_stays(self):
        shown = looks(2, 2, 2)
        base = TWO + [wins(6, [0, 1]), mine(0, 1, 1, [X, N])]
        self.assertEqual(run(*base, measure(0, [Y, N]), FRESH, *shown)[-len(shown):], run(*base, *shown)[-len(shown):])


if __name__ == "__main__":
    unittest.main()
