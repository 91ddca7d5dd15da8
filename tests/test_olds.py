"""olds: the fewest old sounds."""

import itertools
import random
import unittest

from tests.helper import begins, last, olds, told, word


def agree(one, other):
    return one[0] != other[0] or all(0 in pair or pair[0] == pair[1] for pair in zip(one[1:], other[1:]))


def expected(places):
    """By trying all ways, those with the fewest old sounds first, and of these in order."""
    unlike = list(dict.fromkeys(places))
    for limit in range(len(unlike) + 1):
        for way in itertools.product(range(limit), repeat=len(unlike)):
            if all(way[i] != way[j] or agree(unlike[i], unlike[j])
                   for i, j in itertools.combinations(range(len(unlike)), 2)):
                return [len(set(way))] + list(way)
    return None


def words_of(places):
    return [word(*places[at:at + 6]) for at in range(0, len(places), 6)]


def unlike_places(number):
    return [(0, 2 + place, 2) for place in range(number)]


class OldsTest(unittest.TestCase):
    def test_none_without_words(self):
        self.assertEqual(last(olds()), [0])
        self.assertEqual(last(begins(5), olds()), [0])

    def test_one_pattern(self):
        self.assertEqual(last(word((3, 2, 3), (3, 2, 3)), word((3, 2, 3)), olds()), [1, 0])

    def test_known_sounds_that_differ(self):
        self.assertEqual(last(word((0, 2, 3), (0, 4, 5)), olds()), [2, 0, 1])
        self.assertEqual(last(word((0, 2, 3), (0, 4, 3)), olds()), [2, 0, 1])
        self.assertEqual(last(word((0, 2, 3), (0, 2, 4)), olds()), [2, 0, 1])
        self.assertEqual(last(begins(5), word((0, 2, 3, 4, 5, 6), (0, 2, 3, 4, 5, 7)), olds()), [2, 0, 1])

    def test_unlike_surroundings(self):
        self.assertEqual(last(word((0, 2, 3), (1, 4, 5), (9, 6, 7)), olds()), [1, 0, 0, 0])
        self.assertEqual(last(word((0, 2, 3), (1, 4, 5), (0, 4, 5), (1, 2, 3)), olds()), [2, 0, 0, 1, 1])

    def test_sounds_that_are_not_known(self):
        self.assertEqual(last(word((0, 2, 0), (0, 0, 3), (0, 2, 3), (0, 0, 0)), olds()), [1, 0, 0, 0, 0])
        self.assertEqual(last(word((0, 2, 0), (0, 4, 3), (0, 0, 3)), olds()), [2, 0, 1, 0])
        self.assertEqual(last(word((0, 0, 5), (0, 2, 0), (0, 3, 0)), olds()), [2, 0, 0, 1])

    def test_none_there_is_a_known_sound(self):
        self.assertEqual(last(word((0, 2, 3), (0, 1, 3)), olds()), [2, 0, 1])
        self.assertEqual(last(word((0, 1, 0), (0, 1, 3)), olds()), [1, 0, 0])

    def test_the_first_number_that_fits_would_take_more(self):
        path = [(0, 2, 0, 0), (0, 0, 0, 2), (0, 3, 2, 0), (0, 0, 3, 3)]
        self.assertEqual(last(begins(3), word(*path), olds()), [2, 0, 1, 1, 0])

    def test_of_several_ways_the_first(self):
        self.assertEqual(last(word((0, 2, 2), (0, 3, 3), (0, 0, 0), (1, 4, 4)), olds()), [2, 0, 1, 0, 0])
        self.assertEqual(last(word((0, 2, 2), (0, 3, 3), (0, 4, 4), (0, 0, 3), (0, 2, 0)), olds()),
                         [3, 0, 1, 2, 1, 0])
        self.assertEqual(last(word((0, 2, 2), (0, 0, 3), (0, 3, 3), (0, 4, 0)), olds()), [3, 0, 1, 1, 2])

    def test_eight_patterns_and_nine(self):
        self.assertEqual(last(*words_of(unlike_places(8)), olds()), [8, 0, 1, 2, 3, 4, 5, 6, 7])
        self.assertEqual(last(*words_of(unlike_places(9)), olds()), [-5])
        self.assertEqual(last(*words_of(unlike_places(36)), olds()), [-5])
        self.assertEqual(last(*words_of([(place, 2, 3) for place in range(9)]), olds()), [-5])

    def test_patterns_count_and_not_places(self):
        self.assertEqual(last(*words_of(unlike_places(8) * 4), olds()), [8, 0, 1, 2, 3, 4, 5, 6, 7])

    def test_words_can_still_be_added_behind_a_refusal(self):
        self.assertEqual(told(*words_of(unlike_places(9)), olds(), word((0, 2, 3)), olds())[2:], [[-5], [2], [-5]])

    def test_against_all_ways(self):
        source = random.Random(5)
        greedy_took_more = 0
        for number in range(150):
            languages = source.randint(2, 5)
            known = source.choice([[0, 2, 3], [0, 0, 0, 1, 2], [0, 0, 0, 2, 3, 4]])
            places = [(source.choice([0, 0, 0, 1]),) + tuple(source.choice(known) for sound in range(languages))
                      for place in range(source.randint(1, 7))]
            answer = last(begins(languages), *words_of(places), olds())
            self.assertEqual(answer, expected(places))
            greedy_took_more += first_that_fits(places) != answer[1:]
        self.assertGreater(greedy_took_more, 0)


def first_that_fits(places):
    unlike = list(dict.fromkeys(places))
    given = []
    for place in unlike:
        given.append(next(number for number in itertools.count()
                          if all(taken != number or agree(other, place) for other, taken in zip(unlike, given))))
    return given
