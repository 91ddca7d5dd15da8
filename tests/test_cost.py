"""cost: what a change costs."""

import unittest

from tests.helper import begins, beside, cost, last, told

MOST = 4294967295


class CostTest(unittest.TestCase):
    def test_how_many_have_been_told(self):
        self.assertEqual(told(cost(2, 3, 4), cost(3, 2, 4), cost(5, 6, 7)), [[1], [2], [3]])

    def test_the_same_change_told_twice_counts_twice(self):
        self.assertEqual(told(cost(2, 3, 4), cost(2, 3, 4), cost(2, 3, 5)), [[1], [2], [3]])

    def test_what_was_told_last_holds(self):
        self.assertEqual(last(cost(2, 3, 4), cost(2, 3, 1), cost(2, 3, 7), beside([2], [3])), [7, 1, 1, 2, 3])
        self.assertEqual(last(cost(2, 3, 7), cost(2, 3, 0), beside([2], [3])), [0, 1, 1, 2, 3])

    def test_the_two_directions_are_apart(self):
        self.assertEqual(told(cost(2, 3, 4), beside([2], [3]), beside([3], [2]))[1:],
                         [[4, 1, 1, 2, 3], [10, 1, 1, 3, 2]])
        self.assertEqual(told(cost(2, 3, 4), cost(3, 2, 6), beside([2], [3]), beside([3], [2]))[2:],
                         [[4, 1, 1, 2, 3], [6, 1, 1, 3, 2]])

    def test_what_nothing_was_told_of(self):
        self.assertEqual(last(beside([2], [2])), [0, 1, 1, 2, 2])
        self.assertEqual(last(beside([2], [3])), [10, 1, 1, 2, 3])
        self.assertEqual(last(beside([2], [])), [10, 1, 1, 2, 1])
        self.assertEqual(last(beside([], [2])), [10, 1, 1, 1, 2])

    def test_a_change_from_a_sound_to_itself(self):
        self.assertEqual(told(cost(2, 2, 4), beside([2], [2]), beside([3], [3])),
                         [[1], [4, 1, 1, 2, 2], [0, 1, 1, 3, 3]])
        self.assertEqual(last(cost(1, 1, 4)), [1])

    def test_from_and_to(self):
        for sound in (1, 2, 50, 99):
            self.assertEqual(last(cost(sound, 7, 3)), [1])
            self.assertEqual(last(cost(7, sound, 3)), [1])
        for sound in (0, 100, 101, MOST):
            self.assertEqual(last(cost(sound, 7, 3)), [-1])
            self.assertEqual(last(cost(7, sound, 3)), [-1])
            self.assertEqual(last(cost(sound, sound, 3)), [-1])

    def test_the_costs(self):
        for costs in (0, 1, 1000):
            self.assertEqual(last(cost(2, 3, costs)), [1])
        for costs in (1001, 1002, MOST):
            self.assertEqual(last(cost(2, 3, costs)), [-1])
        self.assertEqual(last(cost(2, 1, 1000), cost(1, 3, 1000), cost(2, 3, 1000), beside([2], [3])),
                         [1000, 1, 1, 2, 3])

    def test_a_refusal_tells_nothing(self):
        self.assertEqual(told(cost(2, 3, 4), cost(2, 3, 1001), cost(2, 0, 1), beside([2], [3]), cost(2, 4, 1)),
                         [[1], [-1], [-1], [4, 1, 1, 2, 3], [2]])

    def test_two_hundred_costs(self):
        for full in ([cost(2, 3, 4)] * 200,
                     [cost(2 + number // 90, 2 + number % 90, 9) for number in range(199)] + [cost(2, 3, 4)]):
            parts = told(*full, cost(2, 3, 5), cost(8, 9, 5), cost(0, 3, 5), cost(2, 100, 5), cost(2, 3, 1001),
                         beside([2], [3]), begins(2), cost(2, 3, 5))
            self.assertEqual(parts[:200], [[number] for number in range(1, 201)])
            self.assertEqual(parts[200:],
                             [[-5], [-5], [-1], [-1], [-1], [4, 1, 1, 2, 3], [0], [1]])
