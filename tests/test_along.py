"""score, root and states: sounds along the tree."""

import random
import unittest

from tests.helper import (begins, cheapest_along, cost, last, nodes_of, random_costs, random_shape, root, score, states,
                          tell_costs, told, tree, word)

CHERRY = tree((0, 1))
THREE = [begins(3), tree(((0, 1), 2))]
FOUR = [begins(4), tree(((0, 1), (2, 3)))]


def asked(*before):
    """What is told of the first word's first place."""
    return told(*before, score(), root(0, 0), states(0, 0))[-3:]


class RefusedTest(unittest.TestCase):
    def test_no_tree(self):
        self.assertEqual(told(score(), root(0, 0), states(0, 0)), [[-4]] * 3)
        self.assertEqual(told(word((0, 2, 3)), score(), root(0, 0), states(0, 0))[1:], [[-4]] * 3)

    def test_no_tree_and_no_such_place(self):
        self.assertEqual(told(word((0, 2, 3)), root(1, 0), states(0, 1), root(4294967295, 4294967295))[1:], [[-4]] * 3)

    def test_no_such_word(self):
        for number in (0, 1, 4294967295):
            self.assertEqual(told(CHERRY, root(number, 0), states(number, 0))[1:], [[-6]] * 2)
        for number in (2, 3, 4294967295):
            before = [CHERRY, word((0, 2, 3)), word((0, 2, 3))]
            self.assertEqual(told(*before, root(number, 0), states(number, 0))[3:], [[-6]] * 2)

    def test_no_such_place(self):
        before = [CHERRY, word((0, 2, 2)), word((0, 3, 3), (0, 4, 4))]
        for number, place in ((0, 1), (1, 2), (0, 4294967295), (1, 6)):
            self.assertEqual(told(*before, root(number, place), states(number, place))[3:], [[-6]] * 2)
        self.assertEqual(told(*before, root(1, 1), states(1, 1), root(0, 0), states(0, 0))[3:],
                         [[0, 1, 4], [0, 4, 4, 4], [0, 1, 2], [0, 2, 2, 2]])


class ScoreTest(unittest.TestCase):
    def test_no_words(self):
        self.assertEqual(last(CHERRY, score()), [0])

    def test_all_places_in_order(self):
        calls = [CHERRY, cost(2, 3, 4), cost(7, 8, 6), word((0, 2, 3), (5, 2, 2), (0, 5, 6)), word((0, 7, 8)),
                 word((0, 0, 0), (0, 2, 3))]
        self.assertEqual(last(*calls, score()), [24, 4, 0, 10, 6, 0, 4])

    def test_surroundings_do_not_count(self):
        self.assertEqual(last(CHERRY, word((0, 2, 3), (9, 2, 3)), score()), [20, 10, 10])

    def test_words_and_costs_behind_the_tree(self):
        calls = [CHERRY, word((0, 2, 3)), score(), cost(3, 2, 1), score(), word((0, 3, 2)), score(), cost(3, 2, 7),
                 score()]
        self.assertEqual(told(*calls)[2::2], [[10, 10], [1, 1], [2, 1, 1], [14, 7, 7]])

    def test_all_that_there_may_be(self):
        calls = [begins(5), tree((((0, 1), 2), (3, 4)))] + [word(*[(0, 2, 3, 4, 5, 6)] * 6)] * 6
        self.assertEqual(last(*calls, score()), [36 * 40] + [40] * 36)
        dear = [cost(one, other, 1000) for one in (2, 3) for other in (2, 3)]
        calls = calls[:2] + dear + [word(*[(0, 2, 3, 2, 3, 0)] * 6)] * 6
        self.assertEqual(last(*calls, score()), [36 * 8000] + [8000] * 36)


class AlongTest(unittest.TestCase):
    def test_one_sound_everywhere(self):
        self.assertEqual(asked(CHERRY, word((0, 7, 7))), [[0, 0], [0, 1, 7], [0, 7, 7, 7]])
        self.assertEqual(asked(*THREE, word((0, 7, 7, 7))), [[0, 0], [0, 1, 7], [0, 7, 7, 7, 7, 7]])

    def test_two_sounds(self):
        self.assertEqual(asked(CHERRY, word((0, 3, 2))), [[10, 10], [10, 2, 2, 3], [0, 2, 3, 2]])
        self.assertEqual(asked(*THREE, word((0, 2, 2, 3))), [[10, 10], [10, 2, 2, 3], [0, 2, 2, 2, 2, 3]])
        self.assertEqual(asked(*THREE, word((0, 3, 2, 3))), [[10, 10], [10, 1, 3], [0, 3, 3, 3, 2, 3]])

    def test_nothing_known(self):
        self.assertEqual(asked(CHERRY, word((0, 0, 0))), [[0, 0], [0, 0], [0, 0, 0, 0]])
        self.assertEqual(asked(*FOUR, cost(1, 1, 5), word((0, 0, 0, 0, 0))), [[0, 0], [0, 0], [0] + [0] * 7])
        before = [begins(5), tree((((0, 1), 2), (3, 4))), word((0, 0, 0, 0, 0, 0))]
        self.assertEqual(asked(*before), [[0, 0], [0, 0], [0] + [0] * 9])

    def test_languages_with_unknown_sounds(self):
        self.assertEqual(asked(CHERRY, word((0, 0, 7))), [[0, 0], [0, 1, 7], [0, 7, 7, 7]])
        self.assertEqual(asked(*THREE, word((0, 5, 0, 4))), [[10, 10], [10, 2, 4, 5], [0, 4, 4, 5, 4, 4]])
        self.assertEqual(asked(*FOUR, word((0, 0, 5, 0, 4))),
                         [[10, 10], [10, 2, 4, 5], [0, 4, 4, 4, 5, 4, 4, 4]])

    def test_an_unknown_sound_that_does_best_to_change(self):
        before = [*THREE, cost(4, 4, 9), cost(4, 5, 2), word((0, 4, 0, 5))]
        self.assertEqual(asked(*before), [[10, 10], [10, 1, 5], [0, 5, 5, 4, 5, 5]])
        before = [CHERRY, cost(7, 7, 3), word((0, 7, 0))]
        self.assertEqual(asked(*before), [[6, 6], [6, 1, 7], [0, 7, 7, 7]])

    def test_no_other_sounds_than_the_place_has(self):
        before = [CHERRY, cost(9, 2, 0), cost(9, 3, 0), cost(1, 2, 0), cost(1, 3, 0), word((0, 2, 3), (0, 9, 1))]
        self.assertEqual(asked(*before), [[20, 10, 10], [10, 2, 2, 3], [0, 2, 2, 3]])

    def test_none_there(self):
        self.assertEqual(asked(CHERRY, word((0, 1, 1))), [[0, 0], [0, 1, 1], [0, 1, 1, 1]])
        self.assertEqual(asked(CHERRY, word((0, 2, 1))), [[10, 10], [10, 2, 1, 2], [0, 1, 2, 1]])
        self.assertEqual(asked(CHERRY, cost(2, 1, 3), word((0, 2, 1))), [[3, 3], [3, 1, 2], [0, 2, 2, 1]])
        self.assertEqual(asked(CHERRY, cost(1, 2, 3), word((0, 2, 1))), [[3, 3], [3, 1, 1], [0, 1, 2, 1]])
        self.assertEqual(asked(*THREE, cost(1, 1, 6), word((0, 1, 0, 1))), [[24, 24], [24, 1, 1], [0, 1, 1, 1, 1, 1]])

    def test_costs_of_two_directions(self):
        place = word((0, 2, 2, 3))
        self.assertEqual(asked(*THREE, cost(2, 3, 1), place), [[1, 1], [1, 1, 2], [0, 2, 2, 2, 2, 3]])
        self.assertEqual(asked(*THREE, cost(3, 2, 1), place), [[1, 1], [1, 1, 3], [0, 3, 2, 2, 2, 3]])
        self.assertEqual(asked(*THREE, cost(2, 3, 20), place), [[10, 10], [10, 1, 3], [0, 3, 2, 2, 2, 3]])

    def test_a_told_cost_for_a_sound_that_stays(self):
        self.assertEqual(asked(CHERRY, cost(2, 2, 5), word((0, 2, 2))), [[10, 10], [10, 1, 2], [0, 2, 2, 2]])
        self.assertEqual(asked(CHERRY, cost(2, 2, 15), word((0, 2, 3))), [[10, 10], [10, 1, 3], [0, 3, 2, 3]])
        self.assertEqual(asked(*THREE, cost(2, 2, 15), word((0, 2, 2, 3))),
                         [[20, 20], [20, 1, 3], [0, 3, 3, 2, 2, 3]])

    def test_a_cost_of_nothing(self):
        self.assertEqual(asked(CHERRY, cost(2, 3, 0), word((0, 2, 3))), [[0, 0], [0, 1, 2], [0, 2, 2, 3]])

    def test_several_roots(self):
        self.assertEqual(asked(*THREE, word((0, 4, 3, 2))), [[20, 20], [20, 3, 2, 3, 4], [0, 2, 2, 4, 3, 2]])
        before = [begins(5), tree((((0, 1), 2), (3, 4))), word((0, 60, 50, 40, 30, 1))]
        self.assertEqual(last(*before, root(0, 0)), [40, 5, 1, 30, 40, 50, 60])
        before = [*FOUR, word((0, 9, 9, 5, 7))]
        self.assertEqual(last(*before, root(0, 0)), [20, 3, 5, 7, 9])

    def test_ties_along_the_tree(self):
        before = [*FOUR, cost(4, 2, 8), word((0, 2, 3, 4, 4))]
        self.assertEqual(asked(*before), [[18, 18], [18, 1, 4], [0, 4, 2, 2, 3, 4, 4, 4]])
        before = [*FOUR, cost(4, 5, 8), word((0, 6, 5, 4, 4))]
        self.assertEqual(asked(*before), [[18, 18], [18, 1, 4], [0, 4, 4, 6, 5, 4, 4, 4]])
        before = [*THREE, cost(5, 5, 10), cost(5, 4, 10), cost(4, 4, 30), word((0, 5, 0, 4))]
        self.assertEqual(asked(*before), [[40, 40], [40, 1, 5], [0, 5, 4, 5, 5, 4]])
        self.assertEqual(asked(*before, cost(4, 5, 50)), [[40, 40], [40, 1, 5], [0, 5, 5, 5, 4, 4]])

    def test_the_part_that_is_written_first_comes_first(self):
        before = [begins(3), word((0, 2, 3, 4)), cost(4, 3, 1), cost(4, 2, 1)]
        self.assertEqual(told(*before, tree((2, (1, 0))), states(0, 0))[-1], [0, 4, 4, 4, 3, 2])
        self.assertEqual(told(*before, tree(((0, 1), 2)), states(0, 0))[-1], [0, 4, 4, 2, 3, 4])
        self.assertEqual(told(*before, tree((1, (2, 0))), states(0, 0))[-1], [0, 4, 3, 4, 4, 2])

    def test_against_all_sounds_along_the_tree(self):
        source = random.Random(21)
        roots = set()
        for number in range(250):
            languages = source.randint(2, 5)
            known = source.choice([[1, 2, 3], [2, 3, 4], [1, 2, 50, 98, 99]])
            costs = random_costs(source, known, source.choice([0, 2, 5, 15]))
            shape = random_shape(source, list(range(languages)))
            places = [[source.choice(known + [0]) for language in range(languages)]
                      for place in range(source.randint(1, 3))]
            before = [begins(languages), tree(shape), *tell_costs(costs), word(*[[0] + sounds for sounds in places])]
            scores = []
            for place, sounds in enumerate(places):
                least, along = cheapest_along(shape, sounds, costs)
                found = sorted({states_told[0] for states_told in along})
                scores.append(least)
                roots.add(len(found))
                self.assertEqual(last(*before, root(0, place)), [least, len(found)] + found)
                first = along[0] if along else [0] * len(nodes_of(shape))
                self.assertEqual(last(*before, states(0, place)), [0] + first)
            self.assertEqual(last(*before, score()), [sum(scores)] + scores)
        self.assertGreaterEqual(roots, {0, 1, 2, 3})
