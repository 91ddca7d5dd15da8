"""begins: a new family."""

import unittest

from tests.helper import begins, beside, cost, last, olds, patterns, told, word


def word_of(languages):
    return word([0] + [2] * languages)


class BeginsTest(unittest.TestCase):
    def test_two_to_five_are_taken(self):
        for languages in range(2, 6):
            for sounds in range(8):
                self.assertEqual(told(begins(languages), word_of(sounds)),
                                 [[0], [0 if sounds == languages else -1]])

    def test_others_are_refused(self):
        for languages in (0, 1, 6, 7, 100, 4294967295):
            self.assertEqual(last(begins(languages)), [-1])

    def test_all_is_gone_behind_one_that_is_taken(self):
        for languages in range(2, 6):
            parts = told(cost(2, 3, 4), word((0, 2, 3)), begins(languages), patterns(), olds(),
                         beside([2], [3]), cost(5, 6, 7), word_of(languages))
            self.assertEqual(parts, [[1], [0], [0], [0], [0], [10, 1, 1, 2, 3], [1], [0]])

    def test_all_is_there_behind_one_that_is_refused(self):
        for languages in (0, 1, 6, 4294967295):
            parts = told(begins(3), cost(2, 3, 4), word((0, 2, 3, 4)), begins(languages), patterns(), olds(),
                         beside([2], [3]), cost(5, 6, 7), word_of(3))
            self.assertEqual(parts, [[0], [1], [0], [-1], [1, 1, 0, 2, 3, 4], [1, 0], [4, 1, 1, 2, 3], [2], [1]])
