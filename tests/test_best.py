"""best: the trees that cost the least."""

import random
import unittest

from tests.helper import (all_shapes, begins, best, cheapest_along, cost, last, random_costs, random_shape, score,
                          tell_costs, told, tree, word, written)

THREE_TREES = [1, 0, 0, 1, 0, 1, 0, 2] + [1, 1, 0, 0, 0, 1, 0, 2] + [1, 1, 0, 0, 0, 2, 0, 1]


def tried(languages, places, costs):
    """By trying all trees, and on each of them all sounds."""
    totals = {}
    for shape in all_shapes(tuple(range(languages))):
        total = sum(cheapest_along(shape, sounds, costs)[0] for sounds in places)
        totals.setdefault(total, []).append(written(shape))
    least = min(totals)
    return [least, len(totals[least])] + [number for row in sorted(totals[least]) for number in row]


class BestTest(unittest.TestCase):
    def test_no_words(self):
        self.assertEqual(last(best()), [0, 1, 1, 0, 0, 0, 1])
        self.assertEqual(last(begins(2), best()), [0, 1, 1, 0, 0, 0, 1])
        self.assertEqual(last(begins(3), best()), [0, 3] + THREE_TREES)

    def test_no_words_of_four_and_five(self):
        for languages, trees in ((4, 15), (5, 105)):
            answer = last(begins(languages), best())
            self.assertEqual(answer[:2], [0, trees])
            size = 3 * languages - 1
            rows = [answer[at:at + size] for at in range(2, len(answer), size)]
            self.assertEqual(rows, sorted(written(shape) for shape in all_shapes(tuple(range(languages)))))
            self.assertEqual(len({tuple(row) for row in rows}), trees)
            self.assertEqual(rows[0], written((0, (1, (2, 3)))) if languages == 4 else written((0, (1, (2, (3, 4))))))

    def test_two_languages(self):
        self.assertEqual(last(word((0, 2, 3), (0, 2, 2)), word((0, 4, 5)), best()), [20, 1, 1, 0, 0, 0, 1])
        self.assertEqual(last(cost(3, 2, 1), word((0, 2, 3)), best()), [1, 1, 1, 0, 0, 0, 1])
        self.assertEqual(last(cost(2, 2, 4), word((0, 2, 2)), best()), [8, 1, 1, 0, 0, 0, 1])

    def test_three_languages(self):
        told_costs = [begins(3), cost(3, 2, 1)]
        self.assertEqual(last(*told_costs, word((0, 2, 3, 2)), best()), [1, 1] + written(((0, 2), 1)))
        self.assertEqual(last(*told_costs, word((0, 3, 2, 2)), best()), [1, 1] + written((0, (1, 2))))
        self.assertEqual(last(*told_costs, word((0, 2, 2, 3)), best()), [1, 1] + written(((0, 1), 2)))

    def test_several_that_cost_as_little_in_order(self):
        self.assertEqual(last(begins(3), word((0, 2, 2, 3)), best()), [10, 3] + THREE_TREES)
        before = [begins(3), cost(3, 2, 1), word((0, 2, 3, 2), (0, 2, 2, 3))]
        self.assertEqual(last(*before, best()), [3, 2] + written(((0, 1), 2)) + written(((0, 2), 1)))
        before = [begins(3), cost(3, 2, 1), word((0, 2, 3, 2), (0, 3, 2, 2))]
        self.assertEqual(last(*before, best()), [3, 2] + written((0, (1, 2))) + written(((0, 2), 1)))

    def test_four_and_five_languages(self):
        before = [begins(4), word((0, 2, 3, 2, 3), (0, 4, 5, 4, 5))]
        answer = last(*before, best())
        self.assertEqual(answer, tried(4, [[2, 3, 2, 3], [4, 5, 4, 5]], {}))
        self.assertEqual(answer[:2], [20, 5])
        before = [begins(5), cost(3, 2, 1), word((0, 2, 3, 2, 3, 2), (0, 3, 3, 2, 3, 2))]
        few = (0, (2, 4))
        self.assertEqual(last(*before, best()),
                         [2, 3] + written((few, (1, 3))) + written(((few, 1), 3)) + written(((few, 3), 1)))

    def test_places_of_all_words_together(self):
        before = [begins(3), cost(3, 2, 1), word((0, 2, 3, 2)), word((0, 2, 2, 3)), word((4, 2, 2, 3))]
        self.assertEqual(last(*before, best()), [4, 1] + written(((0, 1), 2)))

    def test_it_does_not_depend_on_the_tree_that_was_told(self):
        before = [begins(4), cost(3, 2, 1), word((0, 2, 3, 2, 3), (0, 2, 2, 3, 0))]
        answer = last(*before, best())
        self.assertEqual(answer, tried(4, [[2, 3, 2, 3], [2, 2, 3, 0]], {(3, 2): 1}))
        for shape in all_shapes((0, 1, 2, 3)) + [((3, 2), (1, 0)), (0, 1)]:
            self.assertEqual(last(*before, tree(shape), best()), answer)

    def test_it_leaves_the_tree_that_was_told(self):
        before = [begins(3), cost(3, 2, 1), word((0, 2, 3, 2)), tree((0, (1, 2)))]
        self.assertEqual(told(*before, score(), best(), score())[4:],
                         [[2, 2], [1, 1] + written(((0, 2), 1)), [2, 2]])
        self.assertEqual(told(begins(3), best(), score())[2], [-4])

    def test_no_told_tree_is_cheaper(self):
        source = random.Random(3)
        for number in range(40):
            languages = source.randint(2, 5)
            costs = random_costs(source, [1, 2, 3], 4)
            places = [[0] + [source.randint(0, 3) for language in range(languages)] for place in range(6)]
            calls = [begins(languages), *tell_costs(costs), word(*places), best(),
                     tree(random_shape(source, list(range(languages)))), score()]
            parts = told(*calls)
            self.assertGreaterEqual(parts[-1][0], parts[-3][0])

    def test_against_all_trees(self):
        source = random.Random(34)
        trees = set()
        for number in range(36):
            languages = source.choice([2, 3, 4, 4, 5])
            known = source.choice([[1, 2], [1, 2, 3], [2, 50, 99]])
            costs = random_costs(source, known, source.choice([0, 3, 6]))
            places = [[source.choice(known + [0]) for language in range(languages)]
                      for place in range(source.randint(1, 4))]
            before = [begins(languages), *tell_costs(costs), word(*[[0] + sounds for sounds in places])]
            answer = last(*before, best())
            self.assertEqual(answer, tried(languages, places, costs))
            trees.add(answer[1])
        self.assertGreater(len(trees), 4)
