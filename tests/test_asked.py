"""Promise 1: wins, odd, counts, row."""

import unittest

from tests.support import (BEST, MOST, NOT_AS_TOLD, SIZES, begin, counts, last, looks, odd, plan, row_call, rows_asked,
                           run, spins, wins)


def wrong_rows(persons, questions):
    """Rows that aren't asked in a game of this size."""
    rows = [[0] * length for length in range(11) if length != persons]
    for person in range(persons):
        for number in [questions, questions + 1, 255, 256, 2 ** 31, 2 ** 32 - 4, MOST]:
            row = [0] * persons
            row[person] = number
            rows.append(row)
    return rows


class Wins(unittest.TestCase):

    def test_answers_which_won_before(self):
        found = run(begin(2, 2), wins(6, [0, 1]), wins(9, [0, 1]), wins(15, [0, 1]), wins(0, [0, 1]), wins(0, [0, 1]))
        self.assertEqual(found, [[0], [0], [6], [9], [15], [0]])

    def test_each_row_has_its_own(self):
        for persons, questions in SIZES:
            rows = rows_asked(persons, questions)
            calls = [wins(k + 1, row) for k, row in enumerate(rows)]
            found = run(begin(persons, questions), *calls, *[wins(0, row) for row in rows])
            self.assertEqual(found[1:], [[0]] * len(rows) + [[k + 1] for k in range(len(rows))])

    def test_the_greatest_and_one_more(self):
        for persons, questions in SIZES:
            rows = 2 ** (2 ** persons)
            ask = [questions - 1] * persons
            found = run(begin(persons, questions), wins(rows - 1, ask), wins(rows, ask), wins(rows + 1, ask),
                        wins(MOST, ask), wins(0, ask))
            self.assertEqual(found, [[0], [0], NOT_AS_TOLD, NOT_AS_TOLD, NOT_AS_TOLD, [rows - 1]])

    def test_the_first_persons_answer_counts_one(self):
        # Answers 1 of the first and 0 of the second are the row with the number 1, whose bit is 2.
        found = run(begin(2, 1), wins(2, [0, 0]), plan([1, 0]), plan([0, 1]), wins(4, [0, 0]), plan([1, 0]),
                    plan([0, 1]))
        self.assertEqual(found[2:4] + found[5:], [[1, 1], [0, 1], [0, 1], [1, 1]])

    def test_the_fourth_persons_answer_counts_eight(self):
        for person in range(4):
            row = [0] * 4
            row[person] = 1
            found = run(begin(4, 1), wins(1 << (1 << person), [0] * 4), BEST, plan(row))
            self.assertEqual(found[2:], [[1, 1] + row, [1, 1]])

    def test_wrong_rows(self):
        for persons, questions in SIZES:
            for row in wrong_rows(persons, questions):
                for which in [0, 1, 2 ** (2 ** persons), MOST]:
                    self.assertEqual(last(begin(persons, questions), wins(which, row)), NOT_AS_TOLD)


class Odd(unittest.TestCase):

    def test_which_these_are(self):
        self.assertEqual(run(begin(2, 1), odd(0, [0, 0]), odd(1, [0, 0])), [[0], [9], [6]])
        self.assertEqual(run(begin(3, 1), odd(0, [0] * 3), odd(1, [0] * 3)), [[0], [105], [150]])
        self.assertEqual(run(begin(4, 1), odd(0, [0] * 4), odd(1, [0] * 4)), [[0], [38505], [27030]])

    def test_just_these_win(self):
        found = run(begin(2, 2), wins(15, [1, 0]), odd(1, [1, 0]), wins(15, [1, 0]), odd(0, [1, 0]), wins(0, [1, 0]))
        self.assertEqual(found[2:], [[6], [6], [9], [9]])

    def test_at_that_row_alone(self):
        rows = rows_asked(3, 2)
        for row in rows:
            found = run(begin(3, 2), odd(1, row), *[wins(0, other) for other in rows])
            self.assertEqual(found[2:], [[150 if other == row else 0] for other in rows])

    def test_neither(self):
        for parity in [2, 3, 255, 256, 2 ** 31, MOST - 1, MOST]:
            found = run(begin(2, 2), wins(5, [1, 1]), odd(parity, [1, 1]), wins(0, [1, 1]))
            self.assertEqual(found[2:], [NOT_AS_TOLD, [5]])

    def test_wrong_rows(self):
        for persons, questions in SIZES:
            for row in wrong_rows(persons, questions):
                for parity in [0, 1, 2, MOST]:
                    self.assertEqual(last(begin(persons, questions), odd(parity, row)), NOT_AS_TOLD)


class Counts(unittest.TestCase):

    def test_answers_how_much_it_counted_before(self):
        found = run(begin(2, 2), counts(99, [0, 1]), counts(0, [0, 1]), counts(7, [0, 1]), counts(7, [0, 1]),
                    counts(1, [0, 1]))
        self.assertEqual(found, [[0], [1], [99], [0], [7], [7]])

    def test_each_row_has_its_own(self):
        for persons, questions in SIZES:
            rows = rows_asked(persons, questions)
            calls = [counts(k + 20, row) for k, row in enumerate(rows)]
            found = run(begin(persons, questions), *calls, *[counts(0, row) for row in rows])
            self.assertEqual(found[1:], [[1]] * len(rows) + [[k + 20] for k in range(len(rows))])

    def test_too_much(self):
        for much in [100, 101, 255, 256, 355, 2 ** 31, MOST]:
            found = run(begin(3, 2), counts(42, [1, 0, 1]), counts(much, [1, 0, 1]), counts(0, [1, 0, 1]))
            self.assertEqual(found[2:], [NOT_AS_TOLD, [42]])

    def test_wrong_rows(self):
        for persons, questions in SIZES:
            for row in wrong_rows(persons, questions):
                for much in [0, 99, 100, MOST]:
                    self.assertEqual(last(begin(persons, questions), counts(much, row)), NOT_AS_TOLD)

    def test_winning_answers_stay(self):
        found = run(begin(2, 2), wins(11, [1, 0]), counts(50, [1, 0]), wins(0, [1, 0]), counts(0, [1, 0]))
        self.assertEqual(found[2:], [[1], [11], [50]])


class Row(unittest.TestCase):

    def test_how_much_and_which(self):
        found = run(begin(2, 2), row_call([0, 1]), wins(6, [0, 1]), row_call([0, 1]), counts(40, [0, 1]),
                    row_call([0, 1]), odd(0, [0, 1]), row_call([0, 1]), counts(0, [0, 1]), row_call([0, 1]))
        self.assertEqual(found[1::2], [[1, 0], [1, 6], [40, 6], [40, 9], [0, 9]])

    def test_each_row_has_its_own(self):
        for persons, questions in SIZES:
            rows = rows_asked(persons, questions)
            calls = [begin(persons, questions)]
            for k, row in enumerate(rows):
                calls += [wins(k + 1, row), counts(99 - k, row)]
            found = run(*calls, *[row_call(row) for row in rows])
            self.assertEqual(found[len(calls):], [[99 - k, k + 1] for k in range(len(rows))])

    def test_the_greatest(self):
        for persons, questions in SIZES:
            most = 2 ** (2 ** persons) - 1
            asked = [questions - 1] * persons
            found = last(begin(persons, questions), wins(most, asked), counts(99, asked), row_call(asked))
            self.assertEqual(found, [99, most])

    def test_wrong_rows(self):
        for persons, questions in SIZES:
            for row in wrong_rows(persons, questions) + [[0] * 11, [0] * 12]:
                self.assertEqual(last(begin(persons, questions), row_call(row)), NOT_AS_TOLD)

    def test_nothing_is_changed(self):
        shown = looks(2, 2, 2)
        calls = [begin(2, 2), spins([0, 1]), wins(6, [1, 0]), counts(9, [1, 0])]
        due = run(*calls, *shown)[-len(shown):]
        found = run(*calls, row_call([1, 0]), row_call([1]), row_call([1, 0]), *shown)
        self.assertEqual(found[-len(shown):], due)
        self.assertEqual(found[-len(shown) - 1], [9, 6])


class Refused(unittest.TestCase):

    def test_changes_nothing(self):
        shown = looks(2, 2)
        calls = [begin(2, 2)]
        for k, row in enumerate(rows_asked(2, 2)):
            calls += [wins(k + 3, row), counts(k + 11, row)]
        due = run(*calls, *shown)[-len(shown):]
        refused = [wins(16, [0, 1]), odd(2, [0, 1]), counts(100, [0, 1])]
        for row in wrong_rows(2, 2):
            refused += [wins(1, row), odd(1, row), counts(1, row), row_call(row)]
        for call in refused:
            found = run(*calls, call, *shown)
            self.assertEqual(found[-len(shown) - 1], NOT_AS_TOLD)
            self.assertEqual(found[-len(shown):], due)
        self.assertEqual(run(*calls, *refused, *shown)[-len(shown):], due)


if __name__ == "__main__":
    unittest.main()
