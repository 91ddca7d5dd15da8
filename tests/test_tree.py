"""tree: which trees are taken, and how long one stays."""

import itertools
import unittest

from tests.helper import all_shapes, begins, cost, last, root, score, states, told, tree, word


def deep(languages):
    """Each part but the last beside all the others."""
    shape = languages[-1]
    for language in reversed(languages[:-1]):
        shape = (language, shape)
    return shape


def full(depth, language):
    return language if depth == 1 else (full(depth - 1, language), full(depth - 1, language))


class TreeTest(unittest.TestCase):
    def test_all_orders_of_the_languages(self):
        for languages in range(2, 6):
            for order in itertools.permutations(range(languages)):
                self.assertEqual(last(begins(languages), tree(deep(order))), [0])

    def test_all_trees(self):
        for languages in range(2, 6):
            for shape in all_shapes(tuple(range(languages))):
                self.assertEqual(last(begins(languages), tree(shape)), [0])

    def test_two_languages_at_first(self):
        self.assertEqual(told(tree((1, 0)), tree((0, 1)), tree(((0, 1), 2))), [[0], [0], [-1]])

    def test_a_language_alone(self):
        for languages in range(2, 6):
            for language in (0, 1, 2, 4, 5, 4294967295):
                self.assertEqual(last(begins(languages), tree(language)), [-1])

    def test_a_language_is_missing(self):
        for shape in ((0, 1), (1, 2), (2, 0)):
            self.assertEqual(last(begins(3), tree(shape)), [-1])
        self.assertEqual(last(begins(5), tree(((0, 1), (2, 3)))), [-1])
        self.assertEqual(last(begins(5), tree(((1, 2), (4, 3)))), [-1])

    def test_a_language_twice(self):
        self.assertEqual(last(tree((0, 0))), [-1])
        self.assertEqual(last(tree((1, 1))), [-1])
        self.assertEqual(last(tree(((0, 1), 1))), [-1])
        self.assertEqual(last(tree(((0, 1), (0, 1)))), [-1])
        self.assertEqual(last(begins(3), tree((0, (1, 1)))), [-1])
        self.assertEqual(last(begins(4), tree(((0, 1), ((2, 3), 0)))), [-1])

    def test_a_language_that_is_not_there(self):
        for languages in range(2, 6):
            others = list(range(languages - 1))
            for language in (languages, languages + 1, 4294967295):
                self.assertEqual(last(begins(languages), tree(deep(others + [language]))), [-1])
                self.assertEqual(last(begins(languages), tree(deep(others + [languages - 1, language]))), [-1])

    def test_eight_deep(self):
        self.assertEqual(len(tree(full(8, 0))), 385)
        self.assertEqual(last(tree(full(8, 1))), [-1])
        self.assertEqual(last(begins(5), tree(deep([0, 1, 2, 3, 4, 0, 1, 2]))), [-1])

    def test_a_refused_tree_leaves_the_one_before(self):
        before = [begins(3), cost(2, 3, 4), word((0, 2, 3, 3)), tree((0, (1, 2)))]
        asked = [score(), root(0, 0), states(0, 0)]
        plain = told(*before, *asked)[4:]
        self.assertEqual(plain, [[4, 4], [4, 1, 2], [0, 2, 2, 3, 3, 3]])
        for shape in ((0, 1), ((0, 1), 1), ((0, 1), 3), 0, (((0, 1), 2), 0)):
            self.assertEqual(told(*before, tree(shape), *asked)[4:], [[-1]] + plain)

    def test_a_refused_tree_is_no_tree(self):
        self.assertEqual(told(tree((0, 0)), score()), [[-1], [-4]])

    def test_the_last_that_was_taken_counts(self):
        before = [begins(3), word((0, 2, 3, 3))]
        self.assertEqual(told(*before, tree(((0, 1), 2)), states(0, 0), tree((2, (1, 0))), states(0, 0))[2:],
                         [[0], [0, 3, 3, 2, 3, 3], [0], [0, 3, 3, 3, 3, 2]])

    def test_begins_takes_the_tree_away(self):
        for languages in range(2, 6):
            self.assertEqual(told(tree((0, 1)), begins(languages), score(), root(0, 0), states(0, 0)),
                             [[0], [0], [-4], [-4], [-4]])

    def test_a_refused_begins_does_not(self):
        self.assertEqual(told(word((0, 2, 2)), tree((0, 1)), begins(6), score(), begins(1), states(0, 0)),
                         [[0], [0], [-1], [0, 0], [-1], [0, 2, 2, 2]])
