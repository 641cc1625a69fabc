"""Promise 3: spins and link."""

import unittest

from tests.support import (BEST, MOST, NONE_SUCH, NOT_AS_TOLD, begin, counts, last, link, looks, odd, run, spins, wins)


class Spins(unittest.TestCase):

    def test_how_many(self):
        for number in range(13):
            due = [number] if number <= 6 else NOT_AS_TOLD
            self.assertEqual(last(begin(2, 2), spins([0] * number)), due)

    def test_whose(self):
        for persons in [2, 3, 4]:
            self.assertEqual(last(begin(persons, 1), spins(list(range(persons)))), [persons])
            for place in range(3):
                for person in [persons, persons + 1, 256, 2 ** 31, MOST]:
                    row = [0, 0, 0]
                    row[place] = person
                    self.assertEqual(last(begin(persons, 1), spins(row)), NOT_AS_TOLD)

    def test_persons_not_questions(self):
        self.assertEqual(last(begin(4, 1), spins([3, 3, 1, 2, 0, 3])), [6])
        self.assertEqual(last(begin(2, 3), spins([2])), NOT_AS_TOLD)

    def test_some_persons_have_none(self):
        self.assertEqual(last(begin(4, 2), spins([2, 2])), [2])

    def test_again_and_none_is_linked(self):
        found = run(begin(2, 2), spins([0, 0, 1]), link(0, 1), link(1, 2), spins([1, 0, 1]), link(0, 1), link(0, 1))
        self.assertEqual(found[1:], [[3], [1], [2], [3], [1], [0]])

    def test_fewer_again(self):
        found = run(begin(2, 2), spins([0] * 6), link(4, 5), spins([1]), link(0, 1), spins([]), link(0, 0))
        self.assertEqual(found[2:], [[1], [1], NONE_SUCH, [0], NONE_SUCH])

    def test_a_refused_one_changes_nothing(self):
        calls = [begin(2, 2), wins(6, [0, 0]), spins([0, 1, 1]), link(0, 2)]
        shown = looks(2, 2)
        due = run(*calls, *shown)[-len(shown):]
        for row in [[0] * 7, [0] * 12, [2], [0, 0, 2], [0, 0, 0, 0, 0, 0, 2], [MOST], [3] * 12]:
            found = run(*calls, spins(row), *shown)
            self.assertEqual(found[-len(shown) - 1], NOT_AS_TOLD)
            self.assertEqual(found[-len(shown):], due)

    def test_the_game_stays(self):
        calls = [begin(2, 2), wins(6, [1, 0]), counts(9, [1, 0]), odd(1, [0, 1])]
        found = run(*calls, spins([0, 1]), link(0, 1), BEST, wins(0, [1, 0]), counts(0, [1, 0]), wins(0, [0, 1]))
        self.assertEqual(found[-4][:2], [10, 12])
        self.assertEqual(found[-3:], [[6], [9], [6]])


class Link(unittest.TestCase):

    def test_how_many_links(self):
        found = run(begin(2, 1), spins([0, 0, 1, 1]), link(0, 1), link(1, 2), link(2, 3), link(3, 0))
        self.assertEqual(found[2:], [[1], [2], [3], [4]])

    def test_all_links_of_six(self):
        pairs = [(i, j) for i in range(6) for j in range(i)]
        found = run(begin(3, 2), spins([0, 1, 2, 0, 1, 2]), *[link(i, j) for i, j in pairs],
                    *[link(j, i) for i, j in pairs])
        self.assertEqual(found[2:], [[k] for k in range(1, 16)] + [[k] for k in reversed(range(15))])

    def test_taken_back(self):
        found = run(begin(2, 1), spins([0, 1, 1]), link(0, 1), link(0, 1), link(1, 0), link(0, 1), link(1, 2),
                    link(0, 1), link(0, 1))
        self.assertEqual(found[2:], [[1], [0], [1], [0], [1], [2], [1]])

    def test_another_link_is_not_taken_back(self):
        found = run(begin(2, 1), spins([0] * 4), link(0, 3), link(1, 2), link(0, 1), link(2, 3), link(3, 0), link(1, 2),
                    link(1, 0), link(2, 3))
        self.assertEqual(found[2:], [[1], [2], [3], [4], [3], [2], [1], [0]])

    def test_two_of_one_person(self):
        self.assertEqual(run(begin(2, 1), spins([1, 1]), link(0, 1), link(1, 0))[2:], [[1], [0]])

    def test_no_such_spin(self):
        for number in range(7):
            for i in range(8):
                for j in range(8):
                    found = last(begin(2, 1), spins([0] * number), link(i, j))
                    if i >= number or j >= number:
                        self.assertEqual(found, NONE_SUCH)
                    else:
                        self.assertEqual(found, NOT_AS_TOLD if i == j else [1])

    def test_no_such_spin_comes_first(self):
        # Both are due: they're one, and it isn't there.
        self.assertEqual(last(begin(2, 1), link(0, 0)), NONE_SUCH)
        self.assertEqual(last(begin(2, 1), spins([0, 1]), link(2, 2)), NONE_SUCH)
        self.assertEqual(last(begin(2, 1), spins([0, 1]), link(MOST, MOST)), NONE_SUCH)

    def test_numbers_too_great(self):
        for number in [6, 256, 2 ** 31, 2 ** 32 - 6, MOST]:
            self.assertEqual(last(begin(2, 1), spins([0] * 6), link(number, 0)), NONE_SUCH)
            self.assertEqual(last(begin(2, 1), spins([0] * 6), link(0, number)), NONE_SUCH)

    def test_a_refused_one_changes_nothing(self):
        calls = [begin(2, 2), wins(6, [0, 0]), spins([0, 1, 1]), link(0, 2), link(1, 2)]
        shown = looks(2, 2)
        due = run(*calls, *shown)[-len(shown):]
        for i, j in [(0, 0), (1, 1), (2, 2), (3, 0), (0, 3), (3, 3), (MOST, 1), (MOST, MOST)]:
            self.assertEqual(run(*calls, link(i, j), *shown)[-len(shown):], due)

    def test_the_game_stays(self):
        calls = [begin(2, 2), wins(6, [1, 0]), counts(9, [1, 0]), spins([0, 1])]
        shown = looks(2, 2)
        due = run(*calls, *shown)[-len(shown):]
        self.assertEqual(run(*calls, link(0, 1), link(1, 0), *shown)[-len(shown):], due)


if __name__ == "__main__":
    unittest.main()
