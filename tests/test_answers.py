"""The list of calls and the list of answers."""

import builtins
import unittest
from unittest import mock

from soundkin.family import answers
from tests.helper import (begins, beside, best, cost, expected, last, leave, olds, patterns, reflex, root, score, states,
                          told, tree, word)

MIXED = (begins(3) + cost(2, 3, 4) + beside([2, 5], [3]) + word((1, 2, 3, 0), (0, 1, 1, 1)) + patterns()
         + olds() + reflex(0) + expected(1, (0, 1), (0, 0), (0, 5)) + leave(0) + leave(1) + root(0, 0)
         + tree(((0, 1), 2)) + score() + root(0, 0) + states(0, 0) + best() + begins(9) + reflex(7) + states(0, 2))
MIXED_ANSWERS = [
    1, 0,
    1, 1,
    7, 14, 1, 2, 2, 3, 5, 1,
    1, 0,
    11, 2, 1, 1, 2, 3, 0, 1, 0, 1, 1, 1,
    3, 1, 0, 0,
    9, 2, 0, 1, 1, 1, 1, 2, 3, 0,
    4, 0, 3, 1, 0,
    2, 1, 0,
    1, 0,
    1, -4,
    1, 0,
    3, 4, 4, 0,
    3, 4, 1, 2,
    6, 0, 2, 2, 2, 3, 2,
    26, 4, 3, 1, 0, 0, 1, 0, 1, 0, 2, 1, 1, 0, 0, 0, 1, 0, 2, 1, 1, 0, 0, 0, 2, 0, 1,
    1, -1,
    1, -6,
    1, -6,
]


class AnswersTest(unittest.TestCase):
    def test_each_answer_stands_behind_how_many_numbers_it_has(self):
        self.assertEqual(answers(MIXED), MIXED_ANSWERS)

    def test_one_call(self):
        self.assertEqual(answers([0, 2]), [1, 0])
        self.assertEqual(answers([4]), [1, 0])
        self.assertEqual(answers([2, 0, 0]), [3, 0, 1, 0])
        self.assertEqual(answers([7, 1, 0]), [1, 0])
        self.assertEqual(answers([8, 3]), [1, 0])
        self.assertEqual(answers([9, 5, 1, 0, 1, 0, 0]), [1, 0])
        self.assertEqual(answers([13]), [7, 0, 1, 1, 0, 0, 0, 1])

    def test_a_refusal_is_its_number_alone(self):
        self.assertEqual(answers([0, 1]), [1, -1])
        self.assertEqual(answers([1, 0, 2, 3]), [1, -1])
        self.assertEqual(answers([2, 1, 1, 0]), [1, -1])
        self.assertEqual(answers([3, 0]), [1, -1])
        self.assertEqual(answers([6, 0]), [1, -6])
        self.assertEqual(answers([7, 2, 0]), [1, -6])
        self.assertEqual(answers([9, 2, 0, 1]), [1, -1])
        self.assertEqual(answers([10]), [1, -4])
        self.assertEqual(answers([11, 0, 0]), [1, -4])
        self.assertEqual(answers([12, 0, 0]), [1, -4])

    def test_two_languages_and_nothing_told_at_the_beginning(self):
        self.assertEqual(
            told(word((0, 2)), word((0, 2, 3, 4)), patterns(), olds(), beside([2], [3]), score(), cost(2, 3, 0)),
            [[-1], [-1], [0], [0], [10, 1, 1, 2, 3], [-4], [1]])
        self.assertEqual(last(word((0, 2, 3))), [0])

    def test_refusals_change_nothing(self):
        before = [begins(3), cost(2, 3, 4), word((1, 2, 3, 4)), tree((0, (1, 2)))]
        refused = [begins(1), cost(2, 3, 1001), cost(0, 3, 7), beside([1], []), word(), word((1, 2, 3)),
                   word((1, 2, 3, 4), (10, 2, 3, 4)), tree(((0, 1), 1)), reflex(1), expected(3), expected(0, (1, 0)),
                   root(1, 0), states(0, 1)]
        after = [patterns(), olds(), reflex(0), beside([2], [3]), states(0, 0), cost(2, 3, 5), word((1, 2, 3, 4))]
        parts = told(*before, *refused, *after)
        self.assertEqual(parts[4:17], [[-1]] * 8 + [[-6]] * 5)
        self.assertEqual(parts[17:], told(*before, *after)[4:])
        self.assertEqual(
            parts[17:], [[1, 1, 1, 2, 3, 4], [1, 0], [1, 1, 2, 3, 4], [4, 1, 1, 2, 3], [0, 2, 2, 2, 3, 4], [2], [1]])

    def test_what_was_handed_in_stays(self):
        handed = list(MIXED)
        answers(handed)
        self.assertEqual(handed, MIXED)

    def test_what_was_handed_in_is_not_changed_for_a_while(self):
        class Guarded(list):
            def refuse(self, *given):
                raise AssertionError("the calls were changed")

            append = extend = insert = pop = remove = clear = sort = reverse = refuse
            __setitem__ = __delitem__ = __iadd__ = __imul__ = refuse

        self.assertEqual(answers(Guarded(MIXED)), MIXED_ANSWERS)

    def test_a_second_time_answers_the_same(self):
        handed = list(MIXED)
        once = answers(handed)
        once.append(5)
        self.assertEqual(answers(handed), MIXED_ANSWERS)
        self.assertEqual(answers([4]), [1, 0])
        self.assertEqual(answers(beside([2], [3])), [5, 10, 1, 1, 2, 3])
        self.assertEqual(answers([10]), [1, -4])

    def test_a_list_of_whole_numbers_is_given_back(self):
        answered = answers(MIXED)
        self.assertIs(type(answered), list)
        self.assertEqual({type(number) for number in answered}, {int})

    def test_sixty_calls(self):
        self.assertEqual(told(*[begins(number % 7) for number in range(60)]),
                         [[0] if 2 <= number % 7 <= 5 else [-1] for number in range(60)])
        full = [begins(5)] + [word(*[(9, 2, 3, 4, 5, 6)] * 6)] * 6 + [olds()] * 53
        self.assertEqual(told(*full)[-1], [1, 0])

    def test_it_prints_reads_and_imports_nothing(self):
        def refuse(*given, **named):
            raise AssertionError("not asked for")

        with mock.patch.object(builtins, "print", refuse), mock.patch.object(builtins, "open", refuse), \
                mock.patch.object(builtins, "input", refuse), mock.patch.object(builtins, "__import__", refuse):
            answered = answers(MIXED)
        self.assertEqual(answered, MIXED_ANSWERS)
