"""Promise 1: begin, and what all else answers ahead of it."""

import unittest

from tests.support import (BEST, MOST, NOT_AS_TOLD, NOT_BEGUN, begin, counts, last, link, looks, odd, plan, plans,
                           rows_asked, run, spins, wins)

SIZES = [(2, 1), (2, 2), (2, 3), (3, 1), (3, 2), (4, 1), (4, 2)]


class Begin(unittest.TestCase):

    def test_every_size_that_there_is(self):
        for persons in range(10):
            for questions in range(10):
                due = [0] if (persons, questions) in SIZES else NOT_AS_TOLD
                self.assertEqual(run(begin(persons, questions)), [due], (persons, questions))

    def test_numbers_too_great(self):
        for persons, questions in [(MOST, 1), (2, MOST), (MOST, MOST), (0, MOST), (MOST, 0), (2 ** 31, 2), (2, 2 ** 31),
                                   (2 ** 31, 2 ** 31)]:
            self.assertEqual(run(begin(persons, questions)), [NOT_AS_TOLD])

    def test_a_new_game(self):
        for persons, questions in SIZES:
            for row in rows_asked(persons, questions):
                found = run(begin(persons, questions), counts(5, row), wins(1, row), link(0, 1))
                self.assertEqual(found, [[0], [1], [0], [-2]])
            length = persons * questions
            self.assertEqual(run(begin(persons, questions), BEST)[1], [0, questions ** persons] + [0] * length)

    def test_rows_of_the_size_begun_alone(self):
        for persons, questions in SIZES:
            for length in range(11):
                due = [1] if length == persons else NOT_AS_TOLD
                self.assertEqual(last(begin(persons, questions), counts(3, [0] * length)), due)
            for person in range(persons):
                row = [0] * persons
                row[person] = questions - 1
                self.assertEqual(last(begin(persons, questions), counts(3, row)), [1])
                row[person] = questions
                self.assertEqual(last(begin(persons, questions), counts(3, row)), NOT_AS_TOLD)


class NotBegun(unittest.TestCase):

    def every_other_call(self):
        return [wins(0, [0, 0]), wins(MOST, []), odd(0, [0, 0]), odd(2, [0]), counts(1, [0, 0]), counts(100, [7] * 10),
                plan([0, 0]), plan([]), plan([2] * 12), BEST, plans(0), plans(MOST), spins([]), spins([0]),
                spins([9] * 12), link(0, 1), link(0, 0), link(MOST, MOST)]

    def test_each_other_call(self):
        for call in self.every_other_call():
            self.assertEqual(run(call), [NOT_BEGUN], call)

    def test_all_of_them_and_then_begun(self):
        calls = self.every_other_call()
        self.assertEqual(run(*calls), [NOT_BEGUN] * len(calls))
        found = run(*calls, begin(2, 2), *looks(2, 2))
        self.assertEqual(found[len(calls):], run(begin(2, 2), *looks(2, 2)))

    def test_a_refused_begin_begins_nothing(self):
        for refused in [begin(1, 2), begin(5, 1), begin(2, 0), begin(2, 4), begin(3, 3), begin(MOST, MOST)]:
            for call in self.every_other_call():
                self.assertEqual(run(refused, call), [NOT_AS_TOLD, NOT_BEGUN], (refused, call))


class BeginAgain(unittest.TestCase):

    def lived(self):
        """A game in which all that can be changed was changed."""
        calls = [begin(2, 2), spins([0, 0, 1]), link(0, 1), link(1, 2)]
        for k, row in enumerate(rows_asked(2, 2)):
            calls += [wins(k + 3, row), counts(k + 11, row)]
        return calls

    def test_all_is_new(self):
        for persons, questions in SIZES:
            shown = looks(persons, questions)
            found = run(*self.lived(), begin(persons, questions), *shown)
            self.assertEqual(found[-len(shown):], run(begin(persons, questions), *shown)[1:])

    def test_no_links_are_left(self):
        found = run(*self.lived(), begin(2, 2), spins([0, 0, 1]), link(0, 2), link(0, 1))
        self.assertEqual(found[-3:], [[3], [1], [2]])

    def test_a_refused_one_changes_nothing(self):
        shown = looks(2, 2)
        due = run(*self.lived(), *shown)[-len(shown):]
        for persons, questions in [(1, 2), (5, 1), (2, 0), (2, 4), (3, 3), (4, 3), (0, 0), (MOST, 2), (2, MOST)]:
            found = run(*self.lived(), begin(persons, questions), *shown)
            self.assertEqual(found[-len(shown) - 1], NOT_AS_TOLD)
            self.assertEqual(found[-len(shown):], due)


if __name__ == "__main__":
    unittest.main()
