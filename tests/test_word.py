"""word: a word of the family."""

import unittest

from tests.helper import begins, last, patterns, told, word

MOST = 4294967295
PLACE = (0, 2, 3)


class WordTest(unittest.TestCase):
    def test_words_are_numbered_from_0(self):
        self.assertEqual(told(word(PLACE), word(PLACE), word((1, 4, 5))), [[0], [1], [2]])

    def test_how_many_places(self):
        for places in range(1, 7):
            self.assertEqual(told(word(*[PLACE] * places), patterns()), [[0], [1, places, 0, 2, 3]])
        for places in (0, 7, 8, 12):
            self.assertEqual(told(word(*[PLACE] * places), patterns()), [[-1], [0]])

    def test_surroundings(self):
        for surroundings in (0, 1, 9):
            self.assertEqual(told(word((surroundings, 2, 3)), patterns()), [[0], [1, 1, surroundings, 2, 3]])
        for surroundings in (10, 11, MOST):
            self.assertEqual(told(word((surroundings, 2, 3)), patterns()), [[-1], [0]])

    def test_how_many_sounds(self):
        for languages in range(2, 6):
            for sounds in (0, languages - 1, languages, languages + 1, 12):
                place = [4] + [7] * sounds
                self.assertEqual(last(begins(languages), word(place)), [0] if sounds == languages else [-1])

    def test_sounds(self):
        for sound in (0, 1, 2, 98, 99):
            self.assertEqual(told(word((0, sound, 2), (0, 2, sound)), patterns())[0], [0])
        for sound in (100, 101, MOST):
            self.assertEqual(told(word((0, sound, 2)), patterns()), [[-1], [0]])
            self.assertEqual(told(word((0, 2, sound)), patterns()), [[-1], [0]])

    def test_one_wrong_place_among_others(self):
        for wrong in ((10, 2, 3), (0, 2), (0,), (0, 2, 3, 4), (0, 100, 3), (0, 2, 100)):
            for at in range(6):
                places = [PLACE] * 6
                places[at] = wrong
                self.assertEqual(told(word(*places), patterns(), word(PLACE)), [[-1], [0], [0]])

    def test_lengths_of_places_are_kept_apart(self):
        self.assertEqual(last(word((0, 2), (3, 4, 5, 6))), [-1])

    def test_six_words(self):
        parts = told(*[word(PLACE)] * 6, word(PLACE), word((0, 100, 3)), word(), word(*[PLACE] * 7), word((10, 2, 3)),
                     word((0, 2)), patterns(), begins(2), word(PLACE))
        self.assertEqual(parts, [[0], [1], [2], [3], [4], [5], [-5], [-1], [-1], [-1], [-1], [-1],
                                 [1, 6, 0, 2, 3], [0], [0]])
