"""patterns: the places that are unlike."""

import unittest

from tests.helper import begins, last, patterns, told, word


class PatternsTest(unittest.TestCase):
    def test_none_without_words(self):
        self.assertEqual(last(patterns()), [0])
        self.assertEqual(last(begins(5), patterns()), [0])

    def test_alike_within_one_word(self):
        self.assertEqual(last(word((1, 2, 3), (1, 2, 3), (2, 2, 3), (1, 2, 3)), patterns()),
                         [2, 3, 1, 2, 3, 1, 2, 2, 3])

    def test_alike_in_several_words(self):
        self.assertEqual(last(word((1, 2, 3), (4, 5, 6)), word((4, 5, 6)), word((4, 5, 6), (1, 2, 3)), patterns()),
                         [2, 2, 1, 2, 3, 3, 4, 5, 6])

    def test_in_the_order_in_which_they_come_first(self):
        self.assertEqual(
            last(word((9, 9, 9), (5, 7, 8)), word((0, 2, 2), (9, 9, 9)), word((0, 2, 2), (0, 2, 2), (0, 1, 1)),
                 patterns()),
            [4, 2, 9, 9, 9, 1, 5, 7, 8, 3, 0, 2, 2, 1, 0, 1, 1])

    def test_one_thing_that_differs_makes_them_unlike(self):
        self.assertEqual(last(begins(3), word((0, 2, 3, 4), (1, 2, 3, 4), (0, 5, 3, 4), (0, 2, 5, 4), (0, 2, 3, 5),
                                              (0, 3, 2, 4)), patterns()),
                         [6, 1, 0, 2, 3, 4, 1, 1, 2, 3, 4, 1, 0, 5, 3, 4, 1, 0, 2, 5, 4, 1, 0, 2, 3, 5, 1, 0, 3, 2, 4])

    def test_0_and_1_are_sounds_like_others(self):
        self.assertEqual(last(word((0, 2, 0), (0, 2, 1), (0, 2, 3), (0, 0, 0), (0, 1, 1), (0, 2, 0)), patterns()),
                         [5, 2, 0, 2, 0, 1, 0, 2, 1, 1, 0, 2, 3, 1, 0, 0, 0, 1, 0, 1, 1])

    def test_thirty_six_patterns(self):
        places = [(number % 10, 2 + number, 50, 60, 0, 1) for number in range(36)]
        words = [word(*places[6 * number:6 * number + 6]) for number in range(6)]
        self.assertEqual(last(begins(5), *words, patterns()),
                         [36] + [number for place in places for number in (1,) + place])

    def test_asked_in_between(self):
        self.assertEqual(told(word((1, 2, 3)), patterns(), word((1, 2, 3)), patterns()),
                         [[0], [1, 1, 1, 2, 3], [1], [1, 2, 1, 2, 3]])
