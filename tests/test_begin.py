"""Promise 1: begin, what all else answers ahead of it, and state."""

import unittest

from tests.support import (BEST, FRESH, MOST, N, NOT_AS_TOLD, NOT_BEGUN, SIZES, STATE, VALUE, X, Y, Z, begin, chance,
                           counts, last, link, looks, measure, mine, odd, parity, plan, plans, row_call, rows_asked,
                           run, spins, sure, wins)


class Begin(unittest.TestCase):

    def test_every_size_that_there_is(self):
        for persons in range(10):
            for questions in range(10):
                due = [0] if (persons, questions) in SIZES else NOT_AS_TOLD
                self.assertEqual(run(begin(persons, questions)), [due], (persons, questions))

    def test_numbers_too_great(self):
        for persons, questions in [(MOST, 1), (2, MOST), (MOST, MOST), (0, MOST), (MOST, 0), (2 ** 31, 2), (2, 2 ** 31),
                                   (2 ** 31, 2 ** 31)]:
            self.assertEqual(run(begin(persons, questions)), [NOT_AS_TOLD])

    def test_a_new_game(self):
        for persons, questions in SIZES:
            for row in rows_asked(persons, questions):
                found = run(begin(persons, questions), counts(5, row), wins(1, row), link(0, 1))
                self.assertEqual(found, [[0], [1], [0], [-2]])
            length = persons * questions
            self.assertEqual(run(begin(persons, questions), BEST)[1], [0, questions ** persons] + [0] * length)

    def test_rows_of_the_size_begun_alone(self):
        for persons, questions in SIZES:
            for length in range(11):
                due = [1] if length == persons else NOT_AS_TOLD
                self.assertEqual(last(begin(persons, questions), counts(3, [0] * length)), due)
            for person in range(persons):
                row = [0] * persons
                row[person] = questions - 1
                self.assertEqual(last(begin(persons, questions), counts(3, row)), [1])
                row[person] = questions
                self.assertEqual(last(begin(persons, questions), counts(3, row)), NOT_AS_TOLD)


class NotBegun(unittest.TestCase):

    def every_other_call(self):
        return [wins(0, [0, 0]), wins(MOST, []), odd(0, [0, 0]), odd(2, [0]), counts(1, [0, 0]), counts(100, [7] * 10),
                plan([0, 0]), plan([]), plan([2] * 12), BEST, plans(0), plans(MOST), spins([]), spins([0]),
                spins([9] * 12), link(0, 1), link(0, 0), link(MOST, MOST), FRESH, sure([]), sure([1]), sure([4] * 12),
                measure(0, []), measure(1, []), measure(2, [9]), mine(0, 0, 0, []), mine(9, 9, 9, [9] * 10),
                mine(MOST, 0, 0, []), chance([0, 0], [0, 0]), chance([], []), chance([9] * 12, []),
                parity([0, 0], [1, 1]), parity([], []), parity([9] * 12, []), VALUE, row_call([0, 0]), row_call([]),
                row_call([9] * 12), STATE]

    def test_each_other_call(self):
        for call in self.every_other_call():
            self.assertEqual(run(call), [NOT_BEGUN], call)

    def test_all_of_them_and_then_begun(self):
        calls = self.every_other_call()
        self.assertEqual(run(*calls), [NOT_BEGUN] * len(calls))
        found = run(*calls, begin(2, 2), *looks(2, 2))
        self.assertEqual(found[len(calls):], run(begin(2, 2), *looks(2, 2)))

    def test_a_refused_begin_begins_nothing(self):
        for refused in [begin(1, 2), begin(5, 1), begin(2, 0), begin(2, 4), begin(3, 3), begin(MOST, MOST)]:
            for call in self.every_other_call():
                self.assertEqual(run(refused, call), [NOT_AS_TOLD, NOT_BEGUN], (refused, call))


class State(unittest.TestCase):

    def test_every_size(self):
        for persons, questions in SIZES:
            self.assertEqual(last(begin(persons, questions), STATE), [persons, questions, 0, 0, 0])

    def test_whose_the_spins_are(self):
        self.assertEqual(last(begin(4, 2), spins([3, 0, 2, 2, 1, 0]), STATE), [4, 2, 6, 0, 0, 3, 0, 2, 2, 1, 0])
        self.assertEqual(last(begin(4, 2), spins([3, 0, 2]), spins([1]), STATE), [4, 2, 1, 0, 0, 1])
        self.assertEqual(last(begin(4, 2), spins([3, 0, 2]), spins([]), STATE), [4, 2, 0, 0, 0])

    def test_how_many_links(self):
        found = run(begin(2, 3), spins([0, 1, 1]), link(0, 1), STATE, link(2, 1), STATE, link(1, 0), STATE,
                    spins([0, 1, 1]), STATE)
        self.assertEqual(found[3::2], [[2, 3, 3, links, 0, 0, 1, 1] for links in [1, 2, 1, 0]])

    def test_whether_something_was_measured(self):
        found = run(begin(2, 1), spins([1]), measure(0, [X]), STATE, measure(1, [X]), STATE, measure(1, [Z]), STATE,
                    measure(1, [Z]), STATE, FRESH, STATE, measure(0, [Y]), STATE, spins([1]), STATE)
        self.assertEqual(found[3::2], [[2, 1, 1, 0, measured, 1] for measured in [0, 0, 1, 1, 0, 1, 0]])

    def test_it_changes_nothing(self):
        self.assertEqual(last(begin(2, 2), spins([0, 1]), link(0, 1), *[STATE] * 10), [2, 2, 2, 1, 0, 0, 1])


class BeginAgain(unittest.TestCase):

    def lived(self):
        """A game in which all that can be changed was changed."""
        calls = [begin(2, 2), spins([0, 0, 1]), link(0, 1), link(1, 2)]
        for k, row in enumerate(rows_asked(2, 2)):
            calls += [wins(k + 3, row), counts(k + 11, row)]
        calls += [mine(0, 0, 1, [X, Z, N]), mine(0, 1, 1, [N, N, N]), mine(1, 0, 1, [N, N, Z]),
                  mine(1, 1, 0, [N, N, Y])]
        return calls + [measure(1, [Y, Y, Y])]

    def test_all_is_new(self):
        for persons, questions in SIZES:
            shown = looks(persons, questions)
            found = run(*self.lived(), begin(persons, questions), *shown)
            self.assertEqual(found[-len(shown):], run(begin(persons, questions), *shown)[1:])

    def test_the_same_size_again(self):
        shown = looks(2, 2, 3)
        found = run(*self.lived(), begin(2, 2), spins([0, 0, 1]), *shown)
        self.assertEqual(found[-len(shown):], run(begin(2, 2), spins([0, 0, 1]), *shown)[2:])

    def test_each_ones_measurements_are_as_at_first(self):
        found = run(*self.lived(), begin(2, 2), parity([0, 0], [1, 0]), parity([1, 1], [1, 1]), chance([0, 0], [0, 0]))
        self.assertEqual(found[-3:], [[1], [1], [4, 4, 0]])

    def test_nothing_was_measured(self):
        found = run(*self.lived(), STATE, begin(2, 2), STATE, spins([0, 0, 1]), link(0, 1))
        self.assertEqual(found[-5:], [[2, 2, 3, 2, 1, 0, 0, 1], [0], [2, 2, 0, 0, 0], [3], [1]])

    def test_no_links_are_left(self):
        found = run(*self.lived(), begin(2, 2), spins([0, 0, 1]), link(0, 2), link(0, 1))
        self.assertEqual(found[-3:], [[3], [1], [2]])

    def test_a_refused_one_changes_nothing(self):
        shown = looks(2, 2, 3)
        due = run(*self.lived(), *shown)[-len(shown):]
        for persons, questions in [(1, 2), (5, 1), (2, 0), (2, 4), (3, 3), (4, 3), (0, 0), (MOST, 2), (2, MOST)]:
            found = run(*self.lived(), begin(persons, questions), *shown)
            self.assertEqual(found[-len(shown) - 1], NOT_AS_TOLD)
            self.assertEqual(found[-len(shown):], due)


if __name__ == "__main__":
    unittest.main()
