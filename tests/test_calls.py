"""The interface: how calls are told in one list, what is given back, and that nothing is changed or kept."""

import unittest

from sharedspins.games import answers
from tests.support import (BEST, FRESH, MOST, N, STATE, VALUE, Y, Z, begin, chance, counts, flat, letters_at, link,
                           looks, measure, mine, odd, parity, plan, plans, row_call, rows_asked, run, spins, sure,
                           wins)


class OnlyRead(list):
    """A list that can't be changed, not for a while either."""

    def refuse(self, *given, **named):
        raise AssertionError("the list that was handed in is changed")

    append = clear = extend = insert = pop = remove = reverse = sort = refuse
    __setitem__ = __delitem__ = __iadd__ = __imul__ = refuse


A_LINE = [plan([0, 0]), begin(9, 9), begin(2, 2), wins(6, [0, 1]), odd(1, [1, 1]), counts(5, [0, 0]),
          counts(100, [0, 0]), plan([0, 1, 0, 0]), BEST, plans(2), spins([0, 0, 1]), link(0, 2), link(2, 0), link(5, 0),
          spins([0] * 12),
          begin(3, 1), BEST, wins(255, [0, 0, 0]), plan([1, 0, 1]),
          spins([0, 2]), link(0, 1), sure([Y, Y]), mine(0, 0, 1, [Y, N]), mine(2, 0, 0, [N, Y]), mine(2, 0, 0, [Y, N]),
          mine(2, 1, 0, [Y, N]), parity([0, 0, 0], [1, 1, 1]), chance([0, 0, 0], [0, 0, 1]), VALUE, row_call([0, 0, 0]),
          measure(1, [Z, N]), measure(1, [Z, N]), measure(0, [Z, N]), STATE, link(1, 0), FRESH, STATE, link(1, 0),
          chance([0, 0], [0, 0]), parity([0], [1]), row_call([1, 0, 0]), sure([])]

A_LINE_ANSWERED = [1, -11, 1, -22, 1, 0, 1, 0, 1, 6, 1, 1, 1, -22,
                   2, 1, 8, 6, 2, 8, 0, 0, 0, 1, 2, 4, 16, 1, 3, 1, 1, 1, 0, 1, -2, 1, -22,
                   1, 0, 5, 0, 1, 0, 0, 0, 1, 0, 2, 1, 1,
                   1, 2, 1, 1, 1, 0, 1, 0, 1, 0, 1, -22,
                   1, -2, 1, 2, 3, 4, 8, 1, 3, 8, 8, 8, 2, 1, 255,
                   1, 1, 1, 2, 1, -33, 7, 3, 1, 2, 1, 1, 0, 2, 1, -16, 1, 2, 7, 3, 1, 2, 1, 0, 0, 2, 1, 0,
                   1, -22, 1, -22, 1, -22, 1, -22]


class Form(unittest.TestCase):

    def test_one_call(self):
        self.assertEqual(answers([0, 2, 2]), [1, 0])
        self.assertEqual(answers([0, 1, 2]), [1, -22])
        self.assertEqual(answers([5]), [1, -11])

    def test_several_calls(self):
        self.assertEqual(answers(flat(A_LINE)), A_LINE_ANSWERED)

    def test_each_call_as_it_is_told(self):
        calls = [0, 2, 1, 1, 4, 2, 0, 0, 2, 1, 2, 0, 0, 3, 7, 2, 0, 0, 4, 2, 0, 1, 5, 6, 7, 7, 3, 0, 1, 0, 8, 0, 2]
        self.assertEqual(answers(calls), [1, 0, 1, 0, 1, 6, 1, 1, 2, 7, 7, 4, 7, 7, 0, 1, 2, 2, 4, 1, 3, 1, 1])

    def test_each_call_of_spins_as_it_is_told(self):
        calls = [0, 2, 1, 7, 2, 0, 1, 8, 0, 1, 10, 2, 1, 3, 12, 0, 0, 1, 2, 3, 0, 14, 4, 0, 0, 1, 0, 11, 1, 2, 3, 0,
                 13, 4, 0, 0, 0, 0, 9, 15, 16, 2, 0, 0, 17]
        self.assertEqual(answers(calls), [1, 0, 1, 2, 1, 1, 1, 0, 1, 0, 1, 0, 1, 1, 3, 4, 4, 0, 1, 2, 3, 0, 4, 0,
                                          2, 1, 0, 7, 2, 1, 2, 1, 0, 0, 1])

    def test_best_has_no_count_ahead_of_the_plan(self):
        self.assertEqual(answers([0, 4, 2, 5])[2:], [10, 0, 16] + [0] * 8)

    def test_rows_of_every_length_end_where_they_are_told_to(self):
        for length in range(11):
            row = list(range(3, 3 + length))
            for call in [wins(1, row), odd(1, row), counts(1, row)]:
                self.assertEqual(run(begin(2, 1), call, plans(0)), [[0], [-22], [2 ** 2, 2 ** 2]])
            row = [MOST] * length
            for call in [measure(0, row), mine(0, 0, 0, row)]:
                self.assertEqual(run(begin(2, 1), spins([0]), call, plans(0)), [[0], [1], [-22], [4, 4]])
        for length in range(13):
            row = [MOST] * length
            for call in [plan(row), sure(row), chance(row, []), parity(row, []), row_call(row), spins(row)]:
                due = [0] if length == 0 and call in [sure(row), spins(row)] else [-22]
                self.assertEqual(run(begin(2, 1), call, plans(0)), [[0], due, [4, 4]])

    def test_rows_are_passed_over_where_nothing_is_begun(self):
        for row in [[], [0], [0] * 10, [8, 0, 1, 5, 0, 2, 2]]:
            for call in [wins(0, row), odd(0, row), counts(0, row), plan(row), spins(row), sure(row), measure(0, row),
                         mine(0, 0, 0, row), chance(row, []), parity(row, []), row_call(row)]:
                self.assertEqual(run(call, call, begin(2, 2), plans(0)), [[-11], [-11], [0], [16, 16]])

    def test_numbers_that_look_like_calls(self):
        found = run(begin(2, 3), wins(0, [0, 2]), counts(0, [2, 2]), counts(5, [2, 2]), plans(5), link(7, 8))
        self.assertEqual(found, [[0], [0], [1], [0], [0, 64], [-2]])

    def test_four_hundred_calls(self):
        self.assertEqual(run(begin(4, 2), *[BEST] * 399)[-1], [0, 16] + [0] * 8)
        self.assertEqual(run(begin(4, 2), *[plans(0)] * 399)[-1], [256, 256])
        self.assertEqual(run(*[spins([0] * 12)] * 400), [[-11]] * 400)

    def test_four_hundred_calls_of_the_longest_kinds(self):
        owners = [0, 1, 2, 3, 0, 1]
        calls = [begin(4, 2), spins(owners)] + [link(i, j) for j in range(6) for i in range(j)]
        for row in rows_asked(4, 2):
            calls += [odd(sum(row) % 2, row), counts(99, row)]
        for person in range(4):
            for question in range(2):
                own = [(Y if question else Z) if owner == person else N for owner in owners]
                calls.append(mine(person, question, 1, own))
        calls.append(measure(1, letters_at(6, {5: Z})))
        longest = [BEST, plans(8 * 99), VALUE]
        once = run(*calls, *longest)[len(calls):]
        # What's odd of the questions is answered by a plan: everyone answers the question's own number.
        self.assertEqual(once[0], [16 * 99, 16 * 99, 0, 1, 0, 1, 0, 1, 0, 1])
        self.assertEqual(once[2][1:], [16 * 16 * 99, 16 * 16 * 99])
        many = (400 - len(calls)) // 3
        found = run(*calls, *longest * many, *[STATE] * (400 - len(calls) - 3 * many))
        self.assertEqual(len(found), 400)
        self.assertEqual(found[len(calls):len(calls) + 3 * many], once * many)
        for kind in longest:
            self.assertEqual(run(*calls, *[kind] * (400 - len(calls)))[len(calls):],
                             [once[longest.index(kind)]] * (400 - len(calls)))


class NothingChangedOrKept(unittest.TestCase):

    def test_the_list_stands_as_it_was(self):
        calls = flat(A_LINE)
        before = list(calls)
        answers(calls)
        self.assertEqual(calls, before)

    def test_not_for_a_while_either(self):
        self.assertEqual(answers(OnlyRead(flat(A_LINE))), A_LINE_ANSWERED)

    def test_another_list_is_given_back(self):
        calls = [0, 2, 2]
        told = answers(calls)
        self.assertIsNot(told, calls)
        told.append(5)
        self.assertEqual(answers(calls), [1, 0])

    def test_a_second_time_is_as_the_first(self):
        calls = flat(A_LINE)
        for again in range(3):
            self.assertEqual(answers(calls), A_LINE_ANSWERED)

    def test_nothing_is_left_begun(self):
        answers(flat(A_LINE))
        self.assertEqual(answers([5]), [1, -11])
        self.assertEqual(answers([8, 0, 1]), [1, -11])

    def test_two_lines_one_behind_another(self):
        other = [begin(2, 2), odd(1, [0, 0]), counts(9, [1, 1]), spins([1, 1]), link(1, 0)]
        shown = [begin(2, 2)] + looks(2, 2)
        due = run(*shown)
        run(*other)
        self.assertEqual(run(*shown), due)
        self.assertEqual(answers(flat(A_LINE)), A_LINE_ANSWERED)


if __name__ == "__main__":
    unittest.main()
