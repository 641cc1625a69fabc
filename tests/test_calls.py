"""The interface: how calls are told in one list, what is given back, and that nothing is changed or kept."""

import unittest

from sharedspins.games import answers
from tests.support import (BEST, MOST, begin, counts, flat, link, looks, odd, plan, plans, run, spins, wins)


class OnlyRead(list):
    """A list that can't be changed, not for a while either."""

    def refuse(self, *given, **named):
        raise AssertionError("the list that was handed in is changed")

    append = clear = extend = insert = pop = remove = reverse = sort = refuse
    __setitem__ = __delitem__ = __iadd__ = __imul__ = refuse


A_LINE = [plan([0, 0]), begin(9, 9), begin(2, 2), wins(6, [0, 1]), odd(1, [1, 1]), counts(5, [0, 0]), counts(100, [0, 0]),
          plan([0, 1, 0, 0]), BEST, plans(2), spins([0, 0, 1]), link(0, 2), link(2, 0), link(5, 0), spins([0] * 12),
          begin(3, 1), BEST, wins(255, [0, 0, 0]), plan([1, 0, 1])]

A_LINE_ANSWERED = [1, -11, 1, -22, 1, 0, 1, 0, 1, 6, 1, 1, 1, -22,
                   2, 1, 8, 6, 2, 8, 0, 0, 0, 1, 2, 4, 16, 1, 3, 1, 1, 1, 0, 1, -2, 1, -22,
                   1, 0, 5, 0, 1, 0, 0, 0, 1, 0, 2, 1, 1]


class Form(unittest.TestCase):

    def test_one_call(self):
        self.assertEqual(answers([0, 2, 2]), [1, 0])
        self.assertEqual(answers([0, 1, 2]), [1, -22])
        self.assertEqual(answers([5]), [1, -11])

    def test_several_calls(self):
        self.assertEqual(answers(flat(A_LINE)), A_LINE_ANSWERED)

    def test_each_call_as_it_is_told(self):
        calls = [0, 2, 1, 1, 4, 2, 0, 0, 2, 1, 2, 0, 0, 3, 7, 2, 0, 0, 4, 2, 0, 1, 5, 6, 7, 7, 3, 0, 1, 0, 8, 0, 2]
        self.assertEqual(answers(calls), [1, 0, 1, 0, 1, 6, 1, 1, 2, 7, 7, 4, 7, 7, 0, 1, 2, 2, 4, 1, 3, 1, 1])

    def test_best_has_no_count_ahead_of_the_plan(self):
        self.assertEqual(answers([0, 4, 2, 5])[2:], [10, 0, 16] + [0] * 8)

    def test_rows_of_every_length_end_where_they_are_told_to(self):
        for length in range(11):
            row = list(range(3, 3 + length))
            for call in [wins(1, row), odd(1, row), counts(1, row)]:
                self.assertEqual(run(begin(2, 1), call, plans(0)), [[0], [-22], [2 ** 2, 2 ** 2]])
        for length in range(13):
            row = [MOST] * length
            found = run(begin(2, 1), plan(row), plans(0))
            self.assertEqual(found, [[0], [-22], [4, 4]])
            found = run(begin(2, 1), spins(row), plans(0))
            self.assertEqual(found, [[0], [-22] if length else [0], [4, 4]])

    def test_rows_are_passed_over_where_nothing_is_begun(self):
        for row in [[], [0], [0] * 10, [8, 0, 1, 5, 0, 2, 2]]:
            for call in [wins(0, row), odd(0, row), counts(0, row), plan(row), spins(row)]:
                self.assertEqual(run(call, call, begin(2, 2), plans(0)), [[-11], [-11], [0], [16, 16]])

    def test_numbers_that_look_like_calls(self):
        found = run(begin(2, 3), wins(0, [0, 2]), counts(0, [2, 2]), counts(5, [2, 2]), plans(5), link(7, 8))
        self.assertEqual(found, [[0], [0], [1], [0], [0, 64], [-2]])

    def test_four_hundred_calls(self):
        self.assertEqual(run(begin(4, 2), *[BEST] * 399)[-1], [0, 16] + [0] * 8)
        self.assertEqual(run(begin(4, 2), *[plans(0)] * 399)[-1], [256, 256])
        self.assertEqual(run(*[spins([0] * 12)] * 400), [[-11]] * 400)


class NothingChangedOrKept(unittest.TestCase):

    def test_the_list_stands_as_it_was(self):
        calls = flat(A_LINE)
        before = list(calls)
        answers(calls)
        self.assertEqual(calls, before)

    def test_not_for_a_while_either(self):
        self.assertEqual(answers(OnlyRead(flat(A_LINE))), A_LINE_ANSWERED)

    def test_another_list_is_given_back(self):
        calls = [0, 2, 2]
        told = answers(calls)
        self.assertIsNot(told, calls)
        told.append(5)
        self.assertEqual(answers(calls), [1, 0])

    def test_a_second_time_is_as_the_first(self):
        calls = flat(A_LINE)
        for again in range(3):
            self.assertEqual(answers(calls), A_LINE_ANSWERED)

    def test_nothing_is_left_begun(self):
        answers(flat(A_LINE))
        self.assertEqual(answers([5]), [1, -11])
        self.assertEqual(answers([8, 0, 1]), [1, -11])

    def test_two_lines_one_behind_another(self):
        other = [begin(2, 2), odd(1, [0, 0]), counts(9, [1, 1]), spins([1, 1]), link(1, 0)]
        shown = [begin(2, 2)] + looks(2, 2)
        due = run(*shown)
        run(*other)
        self.assertEqual(run(*shown), due)
        self.assertEqual(answers(flat(A_LINE)), A_LINE_ANSWERED)


if __name__ == "__main__":
    unittest.main()
