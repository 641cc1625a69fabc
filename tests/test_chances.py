"""Promise 4: mine, chance, parity, value."""

import unittest

from tests.support import (BEST, FRESH, MOST, N, NONE_SUCH, NOT_AS_TOLD, SIZES, VALUE, X, Y, Z, begin, bits, chance,
                           counts, last, letters_at, link, looks, measure, mine, odd, parity, plan, rows_asked, run,
                           spins, wins)

# Three linked in a row; each one is asked for X (question 0) or Y (question 1) on their own spin.
ROW_OF_THREE = [begin(3, 2), spins([0, 1, 2]), link(0, 1), link(1, 2)]
for place in range(3):
    ROW_OF_THREE += [mine(place, 0, 0, letters_at(3, {place: X})), mine(place, 1, 0, letters_at(3, {place: Y}))]

# Three win a sum that's even if nobody is asked 1, and odd if two are; nothing else counts. Spins win always.
ALWAYS_WON = [begin(3, 2), spins([0, 1, 2]), link(0, 1), link(0, 2)]
for asked in rows_asked(3, 2):
    ALWAYS_WON.append(odd(sum(asked) // 2, asked) if sum(asked) % 2 == 0 else counts(0, asked))
ALWAYS_WON += [mine(0, 0, 0, [X, N, N]), mine(0, 1, 1, [Y, N, N]), mine(1, 0, 0, [N, Z, N]), mine(1, 1, 0, [N, Y, N]),
               mine(2, 0, 0, [N, N, Z]), mine(2, 1, 0, [N, N, Y])]

# Two with a spin each, linked: their X and Z go together.
TWO = [begin(2, 2), spins([0, 1]), link(0, 1), mine(0, 0, 0, [X, N]), mine(0, 1, 0, [Z, N]), mine(1, 0, 0, [N, Z]),
       mine(1, 1, 0, [N, X])]


def wrong_both(persons, questions):
    """Rows that aren't a row that's asked with a row of 0 and 1 behind it."""
    rows = [[0] * length for length in range(13) if length != 2 * persons]
    for k in range(2 * persons):
        most = questions if k < persons else 2
        for number in [most, most + 1, 255, 256, 2 ** 31, 2 ** 32 - 4, MOST]:
            row = [0] * (2 * persons)
            row[k] = number
            rows.append(row)
    return rows


class Mine(unittest.TestCase):

    def test_answers_nought(self):
        for persons, questions in SIZES:
            for person in range(persons):
                for question in range(questions):
                    self.assertEqual(last(begin(persons, questions), mine(person, question, 1, [])), [0])

    def test_own_spins_alone(self):
        owners = [0, 2, 1, 0, 2, 1]
        base = [begin(3, 1), spins(owners)]
        for person in range(3):
            for spin in range(6):
                for letter in [X, Y, Z]:
                    due = [0] if owners[spin] == person else NOT_AS_TOLD
                    self.assertEqual(last(*base, mine(person, 0, 0, letters_at(6, {spin: letter}))), due)
                    both = letters_at(6, {owners.index(person): X, spin: letter})
                    self.assertEqual(last(*base, mine(person, 0, 1, both)), due)

    def test_one_who_has_no_spins(self):
        base = [begin(2, 1), spins([1, 1])]
        self.assertEqual(last(*base, mine(0, 0, 1, [N, N])), [0])
        self.assertEqual(last(*base, mine(0, 0, 1, [N, X])), NOT_AS_TOLD)

    def test_no_such_person_or_question(self):
        for persons, questions in SIZES:
            for person, question in [(persons, 0), (0, questions), (persons, questions), (256, 0), (0, 256), (MOST, 0),
                                     (0, MOST), (2 ** 32 - persons, 0), (2 ** 31, 2 ** 31)]:
                self.assertEqual(last(begin(persons, questions), mine(person, question, 0, [])), NONE_SUCH)

    def test_none_such_comes_first(self):
        for person, question in [(2, 0), (0, 3), (MOST, MOST)]:
            for sign, letters in [(2, [N]), (0, [N, N]), (0, [7]), (MOST, [MOST] * 10), (1, [])]:
                self.assertEqual(last(begin(2, 3), spins([0]), mine(person, question, sign, letters)), NONE_SUCH)

    def test_signs_that_are_none(self):
        for sign in [2, 3, 255, 256, 2 ** 31, MOST]:
            self.assertEqual(last(begin(2, 1), spins([0]), mine(0, 0, sign, [X])), NOT_AS_TOLD)

    def test_wrong_letters(self):
        for number in [0, 1, 3, 6]:
            base = [begin(2, 1), spins([0] * number)]
            for length in range(11):
                due = [0] if length == number else NOT_AS_TOLD
                self.assertEqual(last(*base, mine(0, 0, 0, [N] * length)), due)
            for spin in range(number):
                for letter in [4, 5, 255, 256, 2 ** 31, 2 ** 32 - 4, MOST]:
                    self.assertEqual(last(*base, mine(0, 0, 0, letters_at(number, {spin: letter}))), NOT_AS_TOLD)

    def test_each_question_has_its_own(self):
        for persons, questions in SIZES:
            calls = [begin(persons, questions)]
            for person in range(persons):
                for question in range(questions):
                    calls.append(mine(person, question, (person + question) % 2, []))
            for row in rows_asked(persons, questions):
                for some in bits(persons):
                    due = sum((k + row[k]) * some[k] for k in range(persons)) % 2
                    self.assertEqual(last(*calls, parity(row, some)), [1 + due])

    def test_the_last_one_told_holds(self):
        found = run(begin(2, 1), spins([0]), mine(0, 0, 1, [X]), parity([0, 0], [1, 0]), mine(0, 0, 1, [Z]),
                    parity([0, 0], [1, 0]), mine(0, 0, 0, [N]), parity([0, 0], [1, 0]), mine(0, 0, 1, [X]),
                    parity([0, 0], [1, 0]))
        self.assertEqual(found[3::2], [[2], [0], [1], [2]])

    def test_a_refused_one_changes_nothing(self):
        base = [begin(2, 2), spins([0, 1, 0]), mine(0, 0, 1, [X, N, N]), mine(0, 1, 0, [Z, N, X]),
                mine(1, 0, 1, [N, Z, N]), mine(1, 1, 0, [N, X, N]), link(0, 1)]
        shown = looks(2, 2, 3)
        due = run(*base, *shown)[-len(shown):]
        for call in [mine(2, 0, 0, [N, N, N]), mine(0, 2, 0, [N, N, N]), mine(0, 0, 2, [N, N, N]),
                     mine(0, 0, 0, [N, N]), mine(0, 0, 0, [N, X, N]), mine(1, 0, 0, [N, Z, Z]),
                     mine(1, 1, 0, [N, 4, N]), mine(0, 1, 1, [MOST, N, N]), mine(MOST, MOST, MOST, [])]:
            found = run(*base, call, *shown)
            self.assertIn(found[-len(shown) - 1], [NONE_SUCH, NOT_AS_TOLD])
            self.assertEqual(found[-len(shown):], due)


class Parity(unittest.TestCase):

    def test_as_at_first(self):
        for persons, questions in SIZES:
            for some in bits(persons):
                self.assertEqual(last(begin(persons, questions), parity([0] * persons, some)), [1])

    def test_nobody(self):
        base = [begin(2, 1), spins([0]), mine(0, 0, 1, [Z])]
        self.assertEqual(last(*base, parity([0, 0], [0, 0])), [1])
        self.assertEqual(last(*base, parity([0, 0], [1, 0])), [0])
        self.assertEqual(last(*base, parity([0, 0], [0, 1])), [1])

    def test_three_in_a_row_asked_x_or_y(self):
        for row in rows_asked(3, 2):
            found = run(*ROW_OF_THREE, *[parity(row, some) for some in bits(3)])[len(ROW_OF_THREE):]
            due = {(0, 0, 0): 1}
            if row[0] == 0 and row[2] == 0:
                due[(1, 0, 1)] = 1
            if row == [1, 0, 1]:
                due[(1, 1, 1)] = 2
            self.assertEqual(found, [[due.get(tuple(some), 0)] for some in bits(3)], row)

    def test_signs_are_added(self):
        for first in [0, 1]:
            for second in [0, 1]:
                base = [begin(2, 1), spins([0, 1]), link(0, 1), mine(0, 0, first, [Y, N]), mine(1, 0, second, [N, Y])]
                self.assertEqual(last(*base, parity([0, 0], [1, 1])), [1 + (first + second) % 2])
                self.assertEqual(last(*base, measure(1, [X, N]), FRESH, parity([0, 0], [1, 1])),
                                 [1 + (first + second) % 2])

    def test_what_was_measured_is_seen(self):
        found = run(*TWO, parity([1, 0], [1, 0]), measure(1, [Z, N]), parity([1, 0], [1, 0]), parity([0, 1], [0, 1]),
                    parity([0, 0], [1, 0]), FRESH, parity([1, 0], [1, 0]))
        self.assertEqual(found[len(TWO):], [[0], [1], [2], [2], [0], [2], [0]])

    def test_two_spins_of_one_person(self):
        # Linked with one another, they make a sum sure without anybody else.
        base = [begin(2, 2), spins([1, 1]), link(0, 1), mine(1, 0, 1, [Y, Y]), mine(1, 1, 0, [Y, N])]
        self.assertEqual(last(*base, parity([0, 0], [0, 1])), [2])
        self.assertEqual(last(*base, parity([0, 1], [0, 1])), [0])

    def test_wrong_rows(self):
        for persons, questions in SIZES:
            for both in wrong_both(persons, questions):
                self.assertEqual(last(begin(persons, questions), parity(both, [])), NOT_AS_TOLD)


class Chance(unittest.TestCase):

    def test_without_spins(self):
        base = [begin(2, 2), mine(0, 1, 1, []), wins(6, [1, 0])]
        found = run(*base, *[chance([1, 0], answered) for answered in bits(2)])[3:]
        self.assertEqual(found, [[0, 4, 0], [0, 4, 1], [4, 4, 1], [0, 4, 0]])

    def test_of_how_many(self):
        for persons, questions in SIZES:
            number = 2 ** persons
            self.assertEqual(last(begin(persons, questions), chance([0] * persons, [0] * persons)), [number, number, 0])
            self.assertEqual(last(begin(persons, questions), chance([0] * persons, [1] * persons)), [0, number, 0])

    def test_whether_they_win(self):
        # The first one's answer counts 1, the next one's 2, then 4, then 8.
        for persons in [2, 3, 4]:
            for answered in bits(persons):
                number = sum(answer << person for person, answer in enumerate(answered))
                base = [begin(persons, 1), wins(1 << number, [0] * persons)]
                for other in bits(persons):
                    found = last(*base, chance([0] * persons, other))
                    self.assertEqual(found[2], 1 if other == answered else 0)

    def test_it_wins_just_at_that_row(self):
        found = run(begin(2, 2), wins(8, [0, 1]), chance([0, 1], [1, 1]), chance([1, 0], [1, 1]))
        self.assertEqual(found[2:], [[0, 4, 1], [0, 4, 0]])

    def test_whose_answer_is_sure(self):
        base = [begin(3, 1), spins([1]), mine(0, 0, 1, [N]), mine(1, 0, 0, [Z])]
        found = run(*base, *[chance([0, 0, 0], answered) for answered in bits(3)])[len(base):]
        self.assertEqual(found, [[told, 8, 0] for told in [0, 0, 0, 0, 4, 0, 4, 0]])

    def test_three_in_a_row_asked_x_or_y(self):
        for row in rows_asked(3, 2):
            for answered in bits(3):
                due = 1
                if row[0] == 0 and row[2] == 0:
                    due = 2 if answered[0] == answered[2] else 0
                if row == [1, 0, 1]:
                    due = 2 if sum(answered) % 2 == 1 else 0
                self.assertEqual(last(*ROW_OF_THREE, chance(row, answered)), [due, 8, 0])

    def test_two(self):
        for answered in bits(2):
            due = 2 if answered[0] == answered[1] else 0
            self.assertEqual(last(*TWO, chance([0, 0], answered)), [due, 4, 0])
            self.assertEqual(last(*TWO, chance([1, 1], answered)), [due, 4, 0])
            self.assertEqual(last(*TWO, chance([0, 1], answered)), [1, 4, 0])
            self.assertEqual(last(*TWO, measure(1, [Z, N]), chance([1, 1], answered)),
                             [4 if answered == [1, 1] else 0, 4, 0])

    def test_wrong_rows(self):
        for persons, questions in SIZES:
            for both in wrong_both(persons, questions):
                self.assertEqual(last(begin(persons, questions), chance(both, [])), NOT_AS_TOLD)


class Value(unittest.TestCase):

    def test_nothing_wins(self):
        for persons, questions in SIZES:
            everything = questions ** persons * 2 ** persons
            self.assertEqual(last(begin(persons, questions), VALUE), [0, everything, 0])

    def test_all_wins(self):
        for persons, questions in SIZES:
            rows = rows_asked(persons, questions)
            calls = [wins(2 ** (2 ** persons) - 1, row) for row in rows] + [counts(99, row) for row in rows]
            everything = 99 * len(rows) * 2 ** persons
            found = last(begin(persons, questions), *calls, spins([0]), mine(0, 0, 0, [Z]), VALUE)
            self.assertEqual(found, [everything] * 3)

    def test_no_row_counts(self):
        calls = [odd(1, row) for row in rows_asked(2, 2)] + [counts(0, row) for row in rows_asked(2, 2)]
        self.assertEqual(last(begin(2, 2), *calls, VALUE), [0, 0, 0])

    def test_always_won_and_by_no_plan(self):
        self.assertEqual(run(*ALWAYS_WON, VALUE, BEST)[-2:], [[32, 32, 24], [3, 4, 0, 0, 0, 0, 0, 1]])

    def test_the_sign_of_one_measurement(self):
        self.assertEqual(last(*ALWAYS_WON, mine(0, 1, 0, [Y, N, N]), VALUE), [16, 32, 24])
        self.assertEqual(last(*ALWAYS_WON, mine(1, 0, 1, [N, Z, N]), VALUE), [16, 32, 24])

    def test_a_row_counts_what_it_counts(self):
        found = run(*ALWAYS_WON, mine(0, 1, 0, [Y, N, N]), counts(99, [0, 1, 1]), VALUE, counts(0, [0, 1, 1]), VALUE,
                    counts(50, [1, 0, 0]), VALUE, wins(1, [1, 0, 0]), VALUE)
        self.assertEqual(found[-7::2], [[800, 816, 808], [8, 24, 24], [8, 424, 24], [58, 424, 424]])

    def test_a_link_taken_back(self):
        found = run(*ALWAYS_WON, link(0, 2), VALUE, link(1, 0), VALUE, link(0, 1), link(2, 0), VALUE)
        self.assertEqual([told for told in found if len(told) == 3], [[16, 32, 24], [16, 32, 24], [32, 32, 24]])

    def test_what_was_measured_is_seen(self):
        found = run(*ALWAYS_WON, measure(0, [Z, N, N]), VALUE, FRESH, VALUE)
        self.assertEqual([told for told in found if len(told) == 3], [[16, 32, 24], [32, 32, 24]])

    def test_half_won(self):
        # Just answers 0 and 0 win, asked what's linked: half the times. Asked what isn't: a quarter.
        calls = [wins(1, row) for row in rows_asked(2, 2)]
        self.assertEqual(last(*TWO, *calls, VALUE), [6, 16, 16])
        self.assertEqual(last(*TWO, *calls, counts(0, [0, 1]), counts(7, [1, 1]), VALUE), [17, 36, 36])

    def test_plans_are_won_by_measurements_without_letters(self):
        calls = [wins((7 * k + 3) % 16, row) for k, row in enumerate(rows_asked(2, 2))]
        for row in bits(4):
            own = [mine(k // 2, k % 2, sign, [N, N]) for k, sign in enumerate(row)]
            found = run(*TWO, *calls, *own, VALUE, plan(row))
            self.assertEqual(found[-2][0], 4 * found[-1][0])

    def test_nothing_is_changed(self):
        shown = looks(3, 2, 3)
        due = run(*ALWAYS_WON, *shown)[-len(shown):]
        for call in [VALUE, chance([0, 1, 1], [1, 0, 0]), chance([0, 1, 1], [1, 0, 2]), chance([0, 1], [1, 0]),
                     parity([1, 1, 1], [1, 0, 1]), parity([1, 2, 1], [1, 0, 1]), parity([], [])]:
            self.assertEqual(run(*ALWAYS_WON, call, *shown)[-len(shown):], due)


if __name__ == "__main__":
    unittest.main()
