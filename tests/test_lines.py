"""Long lines of calls of all kinds on one family."""

import inspect
import random
import sys
import unittest

from soundkin.family import answers
from tests.helper import (begins, beside, best, cost, expected, last, leave, olds, patterns, random_shape, reflex, root,
                          score, split, states, told, tree, word)

TELLING = (0, 1, 3, 9)


def random_place(source, languages):
    return (source.choice([0, 0, 1, 9]),) + tuple(source.choice([0, 1, 2, 3]) for sound in range(languages))


def random_tree(source):
    languages = source.randint(2, 5)
    return tree(random_shape(source, [source.randint(0, 5) for language in range(languages)]
                             if source.random() < 0.2 else list(range(languages))))


def random_call(source, languages):
    """A call of some kind; most are taken where there are so many languages."""
    kind = source.choice([1, 1, 2, 3, 3, 3, 4, 5, 6, 7, 9, 9, 10, 11, 12, 0 if source.random() < 0.3 else 10])
    made = {
        0: lambda: begins(source.randint(1, 6)),
        1: lambda: cost(source.randint(0, 4), source.randint(1, 4), source.choice([0, 3, 9, 12, 1000, 1001])),
        2: lambda: beside(*[[source.randint(2, 4) for sound in range(source.randint(0, 7))] for row in range(2)]),
        3: lambda: word(*[random_place(source, languages if source.random() < 0.95 else 3)
                          for place in range(source.randint(1, 2))]),
        4: patterns,
        5: olds,
        6: lambda: reflex(source.randint(0, 3)),
        7: lambda: expected(source.randint(0, languages), *[(source.randint(0, 1), source.choice([0, 1, 9]))
                                                            for sound in range(source.randint(0, 3))]),
        9: lambda: tree(random_shape(source, list(range(languages)))) if source.random() < 0.7 else random_tree(source),
        10: score,
        11: lambda: root(source.randint(0, 3), source.randint(0, 2)),
        12: lambda: states(source.randint(0, 3), source.randint(0, 2)),
    }
    return made[kind]()


def random_line(source):
    """At most 60 calls, 5 of leave and best among them."""
    calls = []
    languages = 2
    while len(calls) < 55:
        if len(calls) % 23 == 0:
            languages = source.randint(2, 5)
            calls.append(begins(languages))
        calls.append(random_call(source, languages))
    for asked in [leave(source.randint(0, 3)), leave(source.randint(0, 9)), best(), best(), best()]:
        calls.insert(source.randint(1, len(calls)), asked)
    return calls[:60]


class LinesTest(unittest.TestCase):
    def test_each_answer_comes_of_what_was_told_before_it(self):
        source = random.Random(13)
        kinds = set()
        for number in range(40):
            calls = random_line(source)
            parts = told(*calls)
            kept = []
            for call, answer in zip(calls, parts):
                self.assertEqual(last(*kept, call), answer, (kept, call))
                kinds.add((call[0], answer[0] if answer[0] < 0 else 0))
                if call[0] in TELLING and answer[0] >= 0:
                    kept = [call] if call[0] == 0 else kept + [call]
        self.assertEqual({kind for kind, refusal in kinds if refusal == 0}, set(range(14)))
        self.assertGreaterEqual(kinds, {(0, -1), (1, -1), (2, -1), (3, -1), (3, -5), (5, -5), (6, -5), (6, -6),
                                        (7, -5), (7, -6), (9, -1), (10, -4), (11, -4), (11, -6), (12, -4), (12, -6)})

    def test_the_list_handed_in_is_as_it_was_and_a_second_time_answers_as_the_first(self):
        source = random.Random(14)
        lines = [[number for call in random_line(source) for number in call] for line in range(30)]
        handed = [list(line) for line in lines]
        once = [answers(line) for line in handed]
        self.assertEqual(handed, lines)
        self.assertEqual([answers(line) for line in reversed(handed)], once[::-1])
        self.assertEqual(handed, lines)

    def test_two_families_in_one_line(self):
        first = [word((0, 2, 3), (1, 4, 5)), cost(2, 3, 1), tree((1, 0)), score(), root(0, 1), states(0, 0), leave(0),
                 best(), expected(1, (0, 1)), olds(), patterns()]
        second = [begins(3), root(0, 0), word((0, 2, 3, 4)), tree((0, (1, 2))), score(), states(0, 0), leave(1),
                  best(), expected(2, (0, 0)), beside([2], [3])]
        parts = told(*first, *second, begins(2), *first)
        self.assertEqual(parts[:11], [[0], [1], [0], [11, 1, 10], [10, 2, 4, 5], [0, 2, 3, 2], [1, 0],
                                      [11, 1, 1, 0, 0, 0, 1], [0, 5], [1, 0, 0], [2, 1, 0, 2, 3, 1, 1, 4, 5]])
        self.assertEqual(parts[11:21], told(*second))
        self.assertEqual(parts[15:17], [[20, 20], [0, 2, 2, 2, 3, 4]])
        self.assertEqual(parts[22:], parts[:11])

    def test_no_call_goes_deep(self):
        deep = (0, (1, (0, (1, (0, (1, (0, 1)))))))
        full = 0
        for level in range(7):
            full = (full, full)
        calls = [begins(5)] + [word(*[(0, 2, 3, 4, 5, 6)] * 6)] * 6 + [tree((0, (1, (2, (3, 4)))))]
        calls += [score(), root(5, 5), states(5, 5), best(), leave(0), olds()] + [tree(deep), tree(full)] * 23
        handed = [number for call in calls for number in call]
        self.assertEqual(len(calls), 60)
        limit = sys.getrecursionlimit()
        sys.setrecursionlimit(len(inspect.stack()) + 40)
        try:
            answered = answers(handed)
        finally:
            sys.setrecursionlimit(limit)
        self.assertEqual(split(answered)[8], [1440] + [40] * 36)
        self.assertEqual(split(answered)[14:], [[-1]] * 46)
