"""Promise 3: spins and link."""

import unittest

from tests.support import (BEST, FRESH, MOST, N, NONE_SUCH, NOT_AS_TOLD, NOT_SURE_SO, SOMETHING_MEASURED, STATE, X, Y,
                           Z, begin, counts, last, link, looks, measure, mine, odd, parity, run, spins, sure, wins)


class Spins(unittest.TestCase):

    def test_how_many(self):
        for number in range(13):
            due = [number] if number <= 6 else NOT_AS_TOLD
            self.assertEqual(last(begin(2, 2), spins([0] * number)), due)

    def test_whose(self):
        for persons in [2, 3, 4]:
            self.assertEqual(last(begin(persons, 1), spins(list(range(persons)))), [persons])
            for place in range(3):
                for person in [persons, persons + 1, 256, 2 ** 31, MOST]:
                    row = [0, 0, 0]
                    row[place] = person
                    self.assertEqual(last(begin(persons, 1), spins(row)), NOT_AS_TOLD)

    def test_persons_not_questions(self):
        self.assertEqual(last(begin(4, 1), spins([3, 3, 1, 2, 0, 3])), [6])
        self.assertEqual(last(begin(2, 3), spins([2])), NOT_AS_TOLD)

    def test_some_persons_have_none(self):
        self.assertEqual(last(begin(4, 2), spins([2, 2])), [2])

    def test_again_and_none_is_linked(self):
        found = run(begin(2, 2), spins([0, 0, 1]), link(0, 1), link(1, 2), spins([1, 0, 1]), link(0, 1), link(0, 1))
        self.assertEqual(found[1:], [[3], [1], [2], [3], [1], [0]])

    def test_nothing_is_measured_again(self):
        found = run(begin(2, 2), spins([0, 1]), measure(1, [Z, Z]), STATE, spins([0, 1]), STATE, link(0, 1),
                    sure([X, N]), sure([X, Z]), measure(0, [Z, N]), spins([0, 1]), sure([X, N]), sure([Z, N]))
        self.assertEqual(found[3:], [[2, 2, 2, 0, 1, 0, 1], [2], [2, 2, 2, 0, 0, 0, 1], [1], NOT_SURE_SO, [0], [1],
                                     [2], [0], NOT_SURE_SO])

    def test_each_ones_measurements_are_as_at_first(self):
        found = run(begin(2, 1), spins([0, 1]), mine(0, 0, 1, [X, N]), mine(1, 0, 0, [N, Z]), parity([0, 0], [1, 0]),
                    parity([0, 0], [0, 1]), spins([0, 1]), parity([0, 0], [1, 0]), parity([0, 0], [0, 1]))
        self.assertEqual(found[4:], [[2], [0], [2], [1], [1]])
        # Also of those persons who have none any more, and with none at all.
        found = run(begin(2, 1), mine(0, 0, 1, []), mine(1, 0, 1, []), parity([0, 0], [1, 0]), spins([1]),
                    parity([0, 0], [1, 0]), mine(0, 0, 1, [N]), spins([]), parity([0, 0], [1, 0]))
        self.assertEqual(found[3:], [[2], [1], [1], [0], [0], [1]])

    def test_fewer_again(self):
        found = run(begin(2, 2), spins([0] * 6), link(4, 5), spins([1]), link(0, 1), spins([]), link(0, 0))
        self.assertEqual(found[2:], [[1], [1], NONE_SUCH, [0], NONE_SUCH])

    def test_a_refused_one_changes_nothing(self):
        calls = [begin(2, 2), wins(6, [0, 0]), spins([0, 1, 1]), link(0, 2), mine(0, 1, 1, [Y, N, N]),
                 mine(1, 0, 1, [N, Z, N]), measure(1, [X, X, X])]
        shown = looks(2, 2, 3)
        due = run(*calls, *shown)[-len(shown):]
        for row in [[0] * 7, [0] * 12, [2], [0, 0, 2], [0, 0, 0, 0, 0, 0, 2], [MOST], [3] * 12]:
            found = run(*calls, spins(row), *shown)
            self.assertEqual(found[-len(shown) - 1], NOT_AS_TOLD)
            self.assertEqual(found[-len(shown):], due)

    def test_the_game_stays(self):
        calls = [begin(2, 2), wins(6, [1, 0]), counts(9, [1, 0]), odd(1, [0, 1])]
        found = run(*calls, spins([0, 1]), link(0, 1), BEST, wins(0, [1, 0]), counts(0, [1, 0]), wins(0, [0, 1]))
        self.assertEqual(found[-4][:2], [10, 12])
        self.assertEqual(found[-3:], [[6], [9], [6]])


class Link(unittest.TestCase):

    def test_how_many_links(self):
        found = run(begin(2, 1), spins([0, 0, 1, 1]), link(0, 1), link(1, 2), link(2, 3), link(3, 0))
        self.assertEqual(found[2:], [[1], [2], [3], [4]])

    def test_all_links_of_six(self):
        pairs = [(i, j) for i in range(6) for j in range(i)]
        found = run(begin(3, 2), spins([0, 1, 2, 0, 1, 2]), *[link(i, j) for i, j in pairs],
                    *[link(j, i) for i, j in pairs])
        self.assertEqual(found[2:], [[k] for k in range(1, 16)] + [[k] for k in reversed(range(15))])

    def test_taken_back(self):
        found = run(begin(2, 1), spins([0, 1, 1]), link(0, 1), link(0, 1), link(1, 0), link(0, 1), link(1, 2),
                    link(0, 1), link(0, 1))
        self.assertEqual(found[2:], [[1], [0], [1], [0], [1], [2], [1]])

    def test_another_link_is_not_taken_back(self):
        found = run(begin(2, 1), spins([0] * 4), link(0, 3), link(1, 2), link(0, 1), link(2, 3), link(3, 0), link(1, 2),
                    link(1, 0), link(2, 3))
        self.assertEqual(found[2:], [[1], [2], [3], [4], [3], [2], [1], [0]])

    def test_two_of_one_person(self):
        self.assertEqual(run(begin(2, 1), spins([1, 1]), link(0, 1), link(1, 0))[2:], [[1], [0]])

    def test_no_such_spin(self):
        for number in range(7):
            for i in range(8):
                for j in range(8):
                    found = last(begin(2, 1), spins([0] * number), link(i, j))
                    if i >= number or j >= number:
                        self.assertEqual(found, NONE_SUCH)
                    else:
                        self.assertEqual(found, NOT_AS_TOLD if i == j else [1])

    def test_no_such_spin_comes_first(self):
        # Both are due: they're one, and it isn't there.
        self.assertEqual(last(begin(2, 1), link(0, 0)), NONE_SUCH)
        self.assertEqual(last(begin(2, 1), spins([0, 1]), link(2, 2)), NONE_SUCH)
        self.assertEqual(last(begin(2, 1), spins([0, 1]), link(MOST, MOST)), NONE_SUCH)

    def test_numbers_too_great(self):
        for number in [6, 256, 2 ** 31, 2 ** 32 - 6, MOST]:
            self.assertEqual(last(begin(2, 1), spins([0] * 6), link(number, 0)), NONE_SUCH)
            self.assertEqual(last(begin(2, 1), spins([0] * 6), link(0, number)), NONE_SUCH)

    def test_something_was_measured(self):
        for i, j in [(0, 1), (1, 0), (1, 2), (2, 0)]:
            found = run(begin(2, 1), spins([0, 1, 1]), link(0, 1), measure(0, [Z, N, N]), link(i, j), STATE, FRESH,
                        link(i, j))
            self.assertEqual(found[3:6], [[1], SOMETHING_MEASURED, [2, 1, 3, 1, 1, 0, 1, 1]])
            self.assertEqual(found[6:], [[3], [0] if {i, j} == {0, 1} else [2]])

    def test_what_was_sure_counts_not_as_measured(self):
        found = run(begin(2, 1), spins([0, 1]), link(0, 1), measure(0, [X, Z]), measure(1, [X, Z]), measure(0, [N, N]),
                    measure(0, [Y, Y]), link(0, 1), sure([X, Z]), sure([X, N]))
        self.assertEqual(found[3:], [[2], NOT_SURE_SO, [2], [2], [0], NOT_SURE_SO, [0]])

    def test_sure_after_measured_counts_still(self):
        found = run(begin(2, 1), spins([0, 1]), measure(0, [Z, N]), measure(0, [Z, N]), link(0, 1))
        self.assertEqual(found[2:], [[1], [2], SOMETHING_MEASURED])

    def test_the_first_that_is_due_is_answered(self):
        measured = [begin(2, 1), spins([0, 1]), measure(0, [Z, N])]
        for i, j in [(2, 0), (0, 2), (2, 2), (MOST, MOST), (1, 6)]:
            self.assertEqual(last(*measured, link(i, j)), NONE_SUCH)
        self.assertEqual(last(*measured, link(0, 0)), NOT_AS_TOLD)
        self.assertEqual(last(*measured, link(1, 1)), NOT_AS_TOLD)
        self.assertEqual(last(*measured, link(0, 1)), SOMETHING_MEASURED)

    def test_each_ones_measurements_stay(self):
        found = run(begin(2, 1), spins([0, 1]), mine(0, 0, 1, [X, N]), mine(1, 0, 0, [N, Z]), parity([0, 0], [1, 1]),
                    link(0, 1), parity([0, 0], [1, 1]), link(0, 1), parity([0, 0], [1, 0]))
        self.assertEqual(found[4:], [[0], [1], [2], [0], [2]])

    def test_what_is_sure_is_as_at_first_with_the_links(self):
        found = run(begin(2, 1), spins([0, 0, 1]), sure([X, N, N]), link(0, 2), sure([X, N, N]), sure([X, N, Z]),
                    sure([Z, N, X]), sure([N, X, N]), link(2, 1), sure([X, N, Z]), sure([N, X, Z]), sure([Z, Z, X]),
                    link(2, 0), sure([X, N, N]), sure([N, X, Z]), sure([N, Z, X]))
        self.assertEqual(found[2:], [[0], [1], NOT_SURE_SO, [0], [0], [0], [2], [0], [0], [0], [1], [0], [0], [0]])

    def test_a_refused_one_changes_nothing(self):
        calls = [begin(2, 2), wins(6, [0, 0]), spins([0, 1, 1]), link(0, 2), link(1, 2), mine(0, 1, 1, [Y, N, N]),
                 mine(1, 0, 1, [N, Z, X])]
        shown = looks(2, 2, 3)
        for measured in [[], [measure(1, [Y, X, Y])]]:
            due = run(*calls, *measured, *shown)[-len(shown):]
            for i, j in [(0, 0), (1, 1), (2, 2), (3, 0), (0, 3), (3, 3), (MOST, 1), (MOST, MOST)]:
                self.assertEqual(run(*calls, *measured, link(i, j), *shown)[-len(shown):], due)
        for i, j in [(0, 1), (0, 2), (2, 1)]:
            self.assertEqual(run(*calls, *measured, link(i, j), *shown)[-len(shown):], due)

    def test_the_game_stays(self):
        calls = [begin(2, 2), wins(6, [1, 0]), counts(9, [1, 0]), spins([0, 1])]
        shown = looks(2, 2, 2)
        due = run(*calls, *shown)[-len(shown):]
        self.assertEqual(run(*calls, link(0, 1), link(1, 0), *shown)[-len(shown):], due)


if __name__ == "__main__":
    unittest.main()
