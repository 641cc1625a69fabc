"""Promise 2: plan, best, plans."""

import unittest
from itertools import product

from tests.support import (BEST, MOST, NOT_AS_TOLD, SIZES, begin, counts, last, looks, odd, plan, plans, rows_asked,
                           run, wins)

# Two persons win if the sum is odd just where both are asked 1: no plan wins all four rows.
ODD_AT_ONE = [begin(2, 2), odd(0, [0, 0]), odd(0, [0, 1]), odd(0, [1, 0]), odd(1, [1, 1])]

# Three persons; the rows with an even number of 1 are asked, and all but the first want an odd sum.
THREE = [begin(3, 2)]
for asked in rows_asked(3, 2):
    if sum(asked) % 2 == 1:
        THREE.append(counts(0, asked))
    else:
        THREE.append(odd(0 if sum(asked) == 0 else 1, asked))


class Plan(unittest.TestCase):

    def test_wins_three_of_four(self):
        self.assertEqual(last(*ODD_AT_ONE, plan([0, 0, 0, 0])), [3, 4])
        self.assertEqual(last(*ODD_AT_ONE, plan([0, 1, 0, 1])), [1, 4])
        self.assertEqual(last(*ODD_AT_ONE, plan([1, 1, 0, 0])), [1, 4])

    def test_answers_stand_person_by_person(self):
        # Only the first person's answer to their second question is 1.
        for row, due in [([0, 0], 0), ([1, 0], 1), ([0, 1], 0), ([1, 1], 1)]:
            found = last(begin(2, 2), *[counts(0, other) for other in rows_asked(2, 2) if other != row],
                         wins(2, row), plan([0, 1, 0, 0]))
            self.assertEqual(found, [due, 1])

    def test_each_answer_of_each_size(self):
        for persons, questions in SIZES:
            for row in rows_asked(persons, questions):
                answers = [k % 2 for k in range(persons)]
                number = sum(answer << person for person, answer in enumerate(answers))
                right = [0] * (persons * questions)
                for person in range(persons):
                    right[person * questions + row[person]] = answers[person]
                base = [begin(persons, questions), wins(1 << number, row), counts(99, row)]
                everything = questions ** persons + 98
                self.assertEqual(last(*base, plan(right)), [99, everything])
                for person in range(persons):
                    for question in range(questions):
                        wrong = list(right)
                        wrong[person * questions + question] ^= 1
                        due = 0 if question == row[person] else 99
                        self.assertEqual(last(*base, plan(wrong)), [due, everything])

    def test_rows_count_what_they_count(self):
        found = last(*ODD_AT_ONE, counts(99, [1, 1]), counts(0, [0, 0]), counts(10, [0, 1]), plan([0, 0, 0, 0]))
        self.assertEqual(found, [11, 110])

    def test_what_a_call_changes_is_seen_by_a_later_one(self):
        found = run(begin(2, 1), plan([1, 1]), odd(0, [0, 0]), plan([1, 1]), counts(99, [0, 0]), plan([1, 1]),
                    odd(1, [0, 0]), plan([1, 1]), counts(0, [0, 0]), plan([1, 1]))
        self.assertEqual(found[1::2], [[0, 1], [1, 1], [99, 99], [0, 99], [0, 0]])

    def test_all_wins(self):
        for persons, questions in SIZES:
            rows = rows_asked(persons, questions)
            calls = [wins(2 ** (2 ** persons) - 1, row) for row in rows] + [counts(99, row) for row in rows]
            everything = 99 * len(rows)
            found = last(begin(persons, questions), *calls, plan([1] * (persons * questions)))
            self.assertEqual(found, [everything, everything])

    def test_wrong_lengths(self):
        for persons, questions in SIZES:
            for length in range(13):
                due = [0, questions ** persons] if length == persons * questions else NOT_AS_TOLD
                self.assertEqual(last(begin(persons, questions), plan([0] * length)), due)

    def test_answers_that_are_none(self):
        for persons, questions in SIZES:
            length = persons * questions
            for k in range(length):
                for number in [2, 3, 256, 2 ** 31, MOST - 1, MOST]:
                    row = [0] * length
                    row[k] = number
                    self.assertEqual(last(begin(persons, questions), plan(row)), NOT_AS_TOLD)

    def test_nothing_is_changed(self):
        shown = looks(2, 2)
        due = run(*ODD_AT_ONE, *shown)[-len(shown):]
        for calls in [[plan([0, 1, 1, 0])], [plan([0, 0, 0])], [plan([0, 0, 0, 2])], [BEST], [plans(3)]]:
            self.assertEqual(run(*ODD_AT_ONE, *calls, *shown)[-len(shown):], due)


class Best(unittest.TestCase):

    def test_three_of_four_and_the_first_such(self):
        self.assertEqual(last(*ODD_AT_ONE, BEST), [3, 4, 0, 0, 0, 0])

    def test_three_persons(self):
        self.assertEqual(last(*THREE, BEST), [3, 4, 0, 0, 0, 0, 0, 1])

    def test_nothing_wins(self):
        for persons, questions in SIZES:
            length = persons * questions
            self.assertEqual(last(begin(persons, questions), BEST), [0, questions ** persons] + [0] * length)

    def test_no_row_counts(self):
        rows = rows_asked(2, 3)
        calls = [odd(1, row) for row in rows] + [counts(0, row) for row in rows]
        found = run(begin(2, 3), *calls, BEST, plans(0), plan([1] * 6))
        self.assertEqual(found[-3:], [[0, 0] + [0] * 6, [64, 64], [0, 0]])

    def test_only_the_last_plan_is_best(self):
        for persons, questions in SIZES:
            rows = rows_asked(persons, questions)
            calls = [wins(1 << (2 ** persons - 1), row) for row in rows] + [counts(99, row) for row in rows]
            everything = 99 * len(rows)
            found = last(begin(persons, questions), *calls, BEST)
            self.assertEqual(found, [everything, everything] + [1] * (persons * questions))

    def test_the_first_of_several(self):
        # Any odd sum wins, so the last answer alone is 1 in the first best plan.
        self.assertEqual(last(begin(2, 1), odd(1, [0, 0]), BEST), [1, 1, 0, 1])
        self.assertEqual(last(begin(4, 1), odd(1, [0] * 4), BEST), [1, 1, 0, 0, 0, 1])
        # All odd: everything is won by 0 of the first and 1 of the second, and the other way round.
        calls = [odd(1, row) for row in rows_asked(2, 2)]
        self.assertEqual(last(begin(2, 2), *calls, BEST), [4, 4, 0, 0, 1, 1])

    def test_eight_questions_in_all(self):
        calls = [begin(4, 2)]
        for row in rows_asked(4, 2):
            calls += [odd(row[0] * row[3], row), counts(row[1] + row[2], row)]
        found = run(*calls, BEST, plan([0] * 8), plans(12), plans(16))
        self.assertEqual(found[-4], [12, 16] + [0] * 8)
        self.assertEqual(found[-3], [12, 16])
        self.assertEqual(found[-1], [0, 256])

    def test_a_row_that_counts_much_outweighs(self):
        self.assertEqual(last(*ODD_AT_ONE, counts(99, [1, 1]), BEST), [101, 102, 0, 0, 0, 1])
        self.assertEqual(last(*ODD_AT_ONE, counts(0, [0, 0]), BEST), [3, 3, 0, 1, 1, 0])


class Plans(unittest.TestCase):

    def test_how_many_win_just_so_much(self):
        found = run(*ODD_AT_ONE, *[plans(much) for much in range(6)])
        self.assertEqual(found[len(ODD_AT_ONE):], [[0, 16], [8, 16], [0, 16], [8, 16], [0, 16], [0, 16]])

    def test_three_persons(self):
        found = run(*THREE, *[plans(much) for much in range(5)])
        self.assertEqual(found[len(THREE):], [[0, 64], [32, 64], [0, 64], [32, 64], [0, 64]])

    def test_how_many_there_are(self):
        for persons, questions in SIZES:
            number = 2 ** (persons * questions)
            found = run(begin(persons, questions), plans(0), plans(1), plans(MOST))
            self.assertEqual(found[1:], [[number, number], [0, number], [0, number]])

    def test_agrees_with_plan(self):
        calls = [begin(2, 3)]
        for k, row in enumerate(rows_asked(2, 3)):
            calls += [wins((k * 7 + 3) % 16, row), counts((k * 5) % 11, row)]
        all_plans = [list(row) for row in product([0, 1], repeat=6)]
        worths = [found[0] for found in run(*calls, *[plan(row) for row in all_plans])[len(calls):]]
        everything = max(worths) + 3
        found = run(*calls, *[plans(much) for much in range(everything)])[len(calls):]
        self.assertEqual(found, [[worths.count(much), 64] for much in range(everything)])
        best = run(*calls, BEST)[-1]
        self.assertEqual(best[0], max(worths))
        self.assertEqual(best[2:], all_plans[worths.index(max(worths))])


if __name__ == "__main__":
    unittest.main()
