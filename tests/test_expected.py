"""expected: what old sounds become in one language."""

import unittest

from tests.helper import begins, expected, last, olds, reflex, told, word

UNLIKE = [word(*[(0, 2 + place, 30 + place) for place in range(6)]), word((0, 8, 36), (0, 9, 37))]


class ExpectedTest(unittest.TestCase):
    def test_one_old_sound(self):
        self.assertEqual(told(word((4, 2, 3)), expected(0, (0, 4)), expected(1, (0, 4)))[1:], [[0, 2], [0, 3]])

    def test_several_old_sounds_with_surroundings(self):
        calls = [word((1, 2, 3), (0, 4, 5), (1, 6, 7)), word((3, 8, 9), (0, 10, 11))]
        self.assertEqual(last(*calls, olds()), [2, 0, 0, 1, 0, 1])
        asked = [(1, 1), (0, 0), (0, 1), (1, 0), (0, 3), (1, 1)]
        self.assertEqual(told(*calls, expected(0, *asked), expected(1, *asked))[2:],
                         [[0, 6, 4, 2, 10, 8, 6], [0, 7, 5, 3, 11, 9, 7]])

    def test_surroundings_in_which_nothing_is_known(self):
        calls = [word((1, 2, 0), (0, 4, 5), (1, 6, 7))]
        asked = [(0, 1), (1, 1), (1, 0), (0, 2), (0, 9), (1, 10), (0, 4294967295)]
        self.assertEqual(told(*calls, expected(0, *asked), expected(1, *asked))[1:],
                         [[0, 2, 6, 0, 0, 0, 0, 0], [0, 0, 7, 0, 0, 0, 0, 0]])

    def test_known_in_a_later_pattern(self):
        calls = [begins(3), word((0, 2, 0, 0), (0, 0, 0, 4)), word((0, 2, 3, 0))]
        self.assertEqual(told(*calls, expected(0, (0, 0)), expected(1, (0, 0)), expected(2, (0, 0)))[3:],
                         [[0, 2], [0, 3], [0, 4]])

    def test_none_there_is_a_known_sound(self):
        self.assertEqual(last(word((0, 0, 1), (0, 2, 0)), expected(1, (0, 0))), [0, 1])

    def test_an_empty_list(self):
        for language in range(2):
            self.assertEqual(last(expected(language)), [0])
            self.assertEqual(last(word((0, 2, 3)), expected(language)), [0])

    def test_twelve_old_sounds(self):
        asked = [(number % 8, 0) for number in range(12)]
        self.assertEqual(last(*UNLIKE, expected(1, *asked)), [0] + [30 + number % 8 for number in range(12)])

    def test_a_language_that_there_is_not(self):
        for languages in range(2, 6):
            before = [begins(languages), word((0,) + (7,) * languages)]
            self.assertEqual(last(*before, expected(languages - 1, (0, 0))), [0, 7])
            for language in (languages, languages + 1, 4294967295):
                self.assertEqual(last(*before, expected(language, (0, 0))), [-6])
                self.assertEqual(last(*before, expected(language)), [-6])

    def test_an_old_sound_that_there_is_not(self):
        self.assertEqual(last(expected(0, (0, 0))), [-6])
        before = [word((0, 2, 3), (0, 4, 5))]
        for sound in (2, 3, 4294967295):
            for asked in ([(sound, 0)], [(0, 0), (sound, 0)], [(sound, 0), (1, 0)], [(0, 0), (sound, 0), (1, 0)]):
                self.assertEqual(last(*before, expected(1, *asked)), [-6])
        self.assertEqual(last(*before, expected(1, (0, 0), (1, 0))), [0, 3, 5])

    def test_eight_patterns_and_nine(self):
        self.assertEqual(told(*UNLIKE, expected(0, (7, 0)), expected(0, (8, 0)))[2:], [[0, 9], [-6]])
        nine = UNLIKE + [word((5, 9, 37))]
        self.assertEqual(told(*nine, expected(0, (0, 0)), expected(0), expected(9, (0, 0)), expected(0, (99, 0)))[3:],
                         [[-5]] * 4)

    def test_it_tells_the_same_as_reflex(self):
        path = [(0, 2, 0, 0), (0, 0, 0, 2), (0, 3, 2, 0), (0, 0, 3, 3)]
        self.assertEqual(told(begins(3), word(*path), reflex(1), expected(0, (1, 0)), expected(1, (1, 0)),
                              expected(2, (1, 0)))[2:], [[1, 0, 3, 2, 2], [0, 3], [0, 2], [0, 2]])
