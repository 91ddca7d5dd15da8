"""reflex: what an old sound becomes."""

import unittest

from tests.helper import begins, last, olds, reflex, told, word


class ReflexTest(unittest.TestCase):
    def test_one_surroundings(self):
        self.assertEqual(last(word((4, 2, 3)), reflex(0)), [1, 4, 2, 3])

    def test_the_least_surroundings_first(self):
        self.assertEqual(last(word((9, 2, 3), (0, 4, 5), (5, 6, 7)), reflex(0)),
                         [3, 0, 4, 5, 5, 6, 7, 9, 2, 3])

    def test_each_old_sound_has_its_own(self):
        calls = [word((1, 2, 3), (0, 4, 5), (1, 6, 7)), word((3, 8, 9), (0, 8, 9))]
        self.assertEqual(told(*calls, olds(), reflex(0), reflex(1))[2:],
                         [[2, 0, 0, 1, 0, 1], [3, 0, 4, 5, 1, 2, 3, 3, 8, 9], [2, 0, 8, 9, 1, 6, 7]])

    def test_known_in_another_pattern(self):
        self.assertEqual(last(word((0, 2, 0), (0, 0, 3)), reflex(0)), [1, 0, 2, 3])
        self.assertEqual(last(begins(5), word((0, 0, 0, 0, 0, 6), (0, 2, 0, 0, 0, 0), (0, 2, 0, 4, 0, 6)), reflex(0)),
                         [1, 0, 2, 0, 4, 0, 6])

    def test_known_in_other_surroundings_alone(self):
        self.assertEqual(last(word((0, 2, 0), (1, 0, 3)), reflex(0)), [2, 0, 2, 0, 1, 0, 3])

    def test_known_in_another_old_sound_alone(self):
        calls = [begins(3), word((0, 2, 3, 0), (0, 4, 5, 6))]
        self.assertEqual(told(*calls, reflex(0), reflex(1))[2:], [[1, 0, 2, 3, 0], [1, 0, 4, 5, 6]])

    def test_none_is_known(self):
        self.assertEqual(last(word((7, 0, 0)), reflex(0)), [1, 7, 0, 0])

    def test_none_there_is_a_known_sound(self):
        self.assertEqual(last(word((0, 1, 0), (0, 0, 1)), reflex(0)), [1, 0, 1, 1])
        self.assertEqual(last(word((0, 1, 2), (0, 3, 2)), reflex(0)), [1, 0, 1, 2])

    def test_an_old_sound_that_there_is_not(self):
        for sound in (0, 1, 4294967295):
            self.assertEqual(last(reflex(sound)), [-6])
        for sound in (2, 3, 4294967295):
            self.assertEqual(last(word((0, 2, 3), (0, 4, 5), (1, 2, 2)), reflex(sound)), [-6])

    def test_eight_patterns_and_nine(self):
        eight = [word(*[(0, 2 + place, 2) for place in range(6)]), word((0, 8, 2), (0, 9, 2))]
        self.assertEqual(told(*eight, reflex(7), reflex(8))[2:], [[1, 0, 9, 2], [-6]])
        self.assertEqual(told(*eight, word((0, 10, 2)), reflex(0), reflex(8), reflex(9), reflex(4294967295))[3:],
                         [[-5]] * 4)

    def test_by_the_fewest_old_sounds(self):
        path = [(0, 2, 0, 0), (0, 0, 0, 2), (0, 3, 2, 0), (0, 0, 3, 3)]
        self.assertEqual(told(begins(3), word(*path), reflex(0), reflex(1), reflex(2))[2:],
                         [[1, 0, 2, 3, 3], [1, 0, 3, 2, 2], [-6]])
