"""beside: two words laid beside one another."""

import random
import unittest

from tests.helper import beside, cost, last, told

MOST = 4294967295


def all_rows(first, second):
    """All rows of pairs, in the document's order."""
    if not first and not second:
        return [[]]
    rows = []
    if first and second:
        rows += [[(first[0], second[0])] + row for row in all_rows(first[1:], second[1:])]
    if first:
        rows += [[(first[0], 1)] + row for row in all_rows(first[1:], second)]
    if second:
        rows += [[(1, second[0])] + row for row in all_rows(first, second[1:])]
    return rows


def expected(first, second, costs):
    rows = all_rows(first, second)
    prices = [sum(costs.get(pair, 0 if pair[0] == pair[1] else 10) for pair in row) for row in rows]
    row = rows[prices.index(min(prices))]
    return [min(prices), prices.count(min(prices)), len(row)] + [sound for pair in row for sound in pair]


class BesideTest(unittest.TestCase):
    def test_no_sounds(self):
        self.assertEqual(last(beside([], [])), [0, 1, 0])
        self.assertEqual(last(beside([4, 5], [])), [20, 1, 2, 4, 1, 5, 1])
        self.assertEqual(last(beside([], [4, 5])), [20, 1, 2, 1, 4, 1, 5])

    def test_alike(self):
        self.assertEqual(last(beside([2, 99], [2, 99])), [0, 1, 2, 2, 2, 99, 99])

    def test_six_sounds_in_each(self):
        self.assertEqual(last(beside([2, 3, 4, 5, 6, 7], [8, 9, 10, 11, 12, 13])),
                         [60, 1, 6, 2, 8, 3, 9, 4, 10, 5, 11, 6, 12, 7, 13])
        self.assertEqual(last(beside([2, 3, 4, 5, 6, 7], [3, 4, 5, 6, 7, 8])),
                         [20, 1, 7, 2, 1, 3, 3, 4, 4, 5, 5, 6, 6, 7, 7, 1, 8])

    def test_all_rows_cost_the_same(self):
        free = [cost(2, 3, 0), cost(2, 1, 0), cost(1, 3, 0)]
        self.assertEqual(last(*free, beside([2] * 6, [3] * 6)), [0, 8989, 6] + [2, 3] * 6)

    def test_costs_from_a_sound_to_none_and_from_none_to_a_sound(self):
        self.assertEqual(last(cost(2, 1, 3), beside([2], [])), [3, 1, 1, 2, 1])
        self.assertEqual(last(cost(1, 3, 4), beside([], [3])), [4, 1, 1, 1, 3])
        self.assertEqual(last(cost(2, 1, 3), cost(1, 3, 4), beside([2], [3])), [7, 2, 2, 2, 1, 1, 3])
        self.assertEqual(last(cost(1, 2, 0), cost(3, 1, 0), beside([2], [3])), [10, 1, 1, 2, 3])

    def test_the_costs_go_from_the_first_to_the_second(self):
        self.assertEqual(told(cost(2, 3, 1), beside([2], [3]), beside([3], [2]))[1:],
                         [[1, 1, 1, 2, 3], [10, 1, 1, 3, 2]])

    def test_a_pair_of_two_comes_before_one_alone(self):
        self.assertEqual(last(beside([2, 2], [2])), [10, 2, 2, 2, 2, 2, 1])
        self.assertEqual(last(beside([2], [2, 2])), [10, 2, 2, 2, 2, 1, 2])
        self.assertEqual(last(cost(2, 1, 5), cost(1, 3, 5), beside([2], [3])), [10, 3, 1, 2, 3])

    def test_one_of_the_first_comes_before_one_of_the_second(self):
        self.assertEqual(last(cost(2, 3, 21), beside([2], [3])), [20, 2, 2, 2, 1, 1, 3])
        self.assertEqual(last(cost(2, 4, 25), cost(2, 5, 25), cost(3, 4, 25), cost(3, 5, 25), beside([2, 3], [4, 5])),
                         [40, 6, 4, 2, 1, 3, 1, 1, 4, 1, 5])

    def test_the_first_pair_that_differs_tells(self):
        self.assertEqual(last(beside([2, 3, 4], [3, 5])), expected([2, 3, 4], [3, 5], {}))
        self.assertEqual(last(beside([2, 3, 4], [3, 5])), [20, 1, 3, 2, 1, 3, 3, 4, 5])
        self.assertEqual(last(beside([5, 2, 2], [2, 6])), expected([5, 2, 2], [2, 6], {}))

    def test_against_all_rows(self):
        source = random.Random(11)
        for number in range(200):
            sounds = [2, 3, 4][:source.randint(1, 3)]
            first = [source.choice(sounds) for place in range(source.randint(0, 5))]
            second = [source.choice(sounds) for place in range(source.randint(0, 5))]
            costs = {}
            calls = []
            for change in range(source.randint(0, 10)):
                pair = (source.randint(1, 4), source.randint(1, 4))
                costs[pair] = source.choice([0, 0, 1, 5, 10, 15, 20, 25])
                calls.append(cost(pair[0], pair[1], costs[pair]))
            self.assertEqual(last(*calls, beside(first, second)), expected(first, second, costs))

    def test_more_than_six_sounds_are_refused(self):
        for length in (7, 8, 12):
            self.assertEqual(last(beside([2] * length, [2])), [-1])
            self.assertEqual(last(beside([2], [2] * length)), [-1])
            self.assertEqual(last(beside([2] * length, [2] * length)), [-1])
        self.assertEqual(last(beside([2] * 6, [2] * 6))[:3], [0, 1, 6])

    def test_sounds_out_of_range_are_refused(self):
        for sound in (0, 1, 100, 101, MOST):
            for words in (([sound], [2]), ([2], [sound]), ([2, 3, sound], []), ([], [sound, 2]), ([sound], [sound])):
                self.assertEqual(last(beside(words[0], words[1])), [-1])
        for sound in (2, 99):
            self.assertEqual(last(beside([sound], [sound])), [0, 1, 1, sound, sound])

    def test_words_of_the_family_are_left_alone(self):
        self.assertEqual(told(beside([2], [3]), [4]), [[10, 1, 1, 2, 3], [0]])
