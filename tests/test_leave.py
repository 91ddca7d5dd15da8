"""leave: the fewest words without which some old sounds are enough."""

import itertools
import random
import unittest

from tests.helper import begins, last, leave, olds, patterns, told, word


def tried(before, words, k):
    """By trying all choices of words to be left out, the fewest first."""
    for number in range(len(words) + 1):
        for left_out in itertools.combinations(range(len(words)), number):
            others = [places for at, places in enumerate(words) if at not in left_out]
            if last(before, *[word(*places) for places in others], olds())[0] <= k:
                return [number] + list(left_out)
    return None


class LeaveTest(unittest.TestCase):
    def test_no_words(self):
        for k in (0, 1, 7, 4294967295):
            self.assertEqual(last(leave(k)), [0])
            self.assertEqual(last(begins(5), leave(k)), [0])

    def test_from_none_to_more_than_there_are(self):
        words = [word((0, 2, 3)), word((0, 4, 5)), word((0, 6, 7))]
        self.assertEqual(last(*words, olds()), [3, 0, 1, 2])
        self.assertEqual(told(*words, leave(0), leave(1), leave(2))[3:], [[3, 0, 1, 2], [2, 0, 1], [1, 0]])
        self.assertEqual(told(*words, leave(3), leave(4))[3:], [[0], [0]])
        self.assertEqual(last(*words, leave(4294967295)), [0])

    def test_none_is_enough_for_no_words_alone(self):
        self.assertEqual(last(word((0, 0, 0)), leave(0)), [1, 0])
        self.assertEqual(last(*[word((0, 2, 3))] * 6, leave(0)), [6, 0, 1, 2, 3, 4, 5])

    def test_the_one_that_does_not_fit(self):
        words = [word((0, 2, 3), (1, 4, 5)), word((1, 4, 5), (2, 8, 9)), word((1, 6, 5)), word((0, 2, 3))]
        self.assertEqual(told(*words, leave(1), leave(2))[4:], [[1, 2], [0]])

    def test_fewer_words_though_their_numbers_are_higher(self):
        words = [word((0, 2, 3)), word((0, 2, 0)), word((0, 2, 3), (0, 4, 5))]
        self.assertEqual(last(*words, leave(1)), [1, 2])

    def test_of_several_the_first(self):
        words = [word((0, 2, 3)), word((0, 4, 5)), word((1, 2, 3)), word((1, 4, 5))]
        self.assertEqual(last(*words, leave(1)), [2, 0, 2])
        words = [word((0, 2, 2)), word((0, 3, 3)), word((0, 3, 3)), word((1, 6, 6)), word((1, 7, 7)), word((0, 2, 2))]
        self.assertEqual(last(*words, leave(1)), [3, 0, 3, 5])
        words = [word((0, 2, 2)), word((1, 2, 2)), word((0, 3, 3)), word((0, 3, 3)), word((1, 3, 3)), word((1, 3, 3))]
        self.assertEqual(last(*words, leave(1)), [2, 0, 1])

    def test_one_word_with_too_much_in_it(self):
        self.assertEqual(told(word((0, 2, 3), (0, 4, 5)), leave(1), leave(2))[1:], [[1, 0], [0]])

    def test_what_is_left_out_is_still_there(self):
        words = [word((0, 2, 3)), word((0, 4, 5))]
        self.assertEqual(told(*words, leave(1), leave(0), leave(1), patterns(), olds())[2:],
                         [[1, 0], [2, 0, 1], [1, 0], [2, 1, 0, 2, 3, 1, 0, 4, 5], [2, 0, 1]])

    def test_the_first_number_that_fits_would_take_more(self):
        path = [(0, 2, 0, 0), (0, 0, 0, 2), (0, 3, 2, 0), (0, 0, 3, 3)]
        self.assertEqual(last(begins(3), *[word(place) for place in path], leave(2)), [0])
        self.assertEqual(last(begins(3), *[word(place) for place in path], leave(1)), [2, 0, 3])

    def test_eight_patterns_and_nine(self):
        eight = [word(*[(0, 2 + place, 2) for place in range(6)]), word((0, 8, 2), (0, 9, 2))]
        self.assertEqual(told(*eight, leave(8), leave(7), leave(5), leave(1), leave(0))[2:],
                         [[0], [1, 0], [1, 0], [2, 0, 1], [2, 0, 1]])
        for k in (0, 1, 8, 9, 4294967295):
            self.assertEqual(last(*eight, word((0, 10, 2)), leave(k)), [-5])
            self.assertEqual(last(*eight, word((1, 2, 2)), leave(k)), [-5])

    def test_against_all_choices(self):
        source = random.Random(8)
        seen = set()
        for number in range(80):
            languages = source.randint(2, 5)
            known = source.choice([[0, 2, 3], [0, 0, 0, 1, 2], [0, 2, 3, 4]])
            places = [(source.choice([0, 0, 0, 1]),) + tuple(source.choice(known) for sound in range(languages))
                      for place in range(8)]
            words = [[source.choice(places) for place in range(source.randint(1, 3))]
                     for chosen in range(source.randint(1, 6))]
            k = source.randint(0, 4)
            answer = last(begins(languages), *[word(*told_places) for told_places in words], leave(k))
            self.assertEqual(answer, tried(begins(languages), words, k))
            seen.add(answer[0])
        self.assertGreaterEqual(seen, {0, 1, 2, 3})
