"""A family of languages, and the list of calls that are made on it.

Each call answers a list of whole numbers; a refusal is a list of its number alone.
"""

from soundkin.along import score_and_roots, states_on
from soundkin.beside import lay_beside
from soundkin.olds import becomes, by_old_sound, count_places, give_old_sounds, leave_out
from soundkin.trees import all_trees, has_each_once, read_tree, write_tree

OUT_OF_RANGE = -1
NO_TREE = -4
TOO_MANY = -5
NOT_THERE = -6

LANGUAGES_AT_FIRST = 2
MOST_COSTS = 200
MOST_WORDS = 6
MOST_PATTERNS = 8

BEGINS = 0
COST = 1
BESIDE = 2
WORD = 3
PATTERNS = 4
OLDS = 5
REFLEX = 6
EXPECTED = 7
LEAVE = 8
TREE = 9
SCORE = 10
ROOT = 11
STATES = 12
BEST = 13

# By a call's number: how many whole numbers and how many rows it has.
SHAPES = (
    (1, 0), (3, 0), (0, 2), (0, 1), (0, 0), (0, 0), (1, 0),
    (1, 1), (1, 0), (0, 1), (0, 0), (2, 0), (2, 0), (0, 0),
)


class Family:
    """What has been told of one family."""

    def __init__(self):
        self.start_over(LANGUAGES_AT_FIRST)

    def start_over(self, languages):
        """All as at a line's beginning, but for the languages."""
        self.languages = languages
        self.told = 0
        self.costs = {}
        self.words = []
        self.told_tree = None

    def begins(self, languages):
        """A new family of so many languages."""
        if not 2 <= languages <= 5:
            return [OUT_OF_RANGE]
        self.start_over(languages)
        return [0]

    def cost(self, one, other, costs):
        """Tell what a change costs."""
        if not (1 <= one <= 99 and 1 <= other <= 99 and costs <= 1000):
            return [OUT_OF_RANGE]
        if self.told == MOST_COSTS:
            return [TOO_MANY]
        self.costs[(one, other)] = costs
        self.told = self.told + 1
        return [self.told]

    def beside(self, first, second):
        """Lay two words beside one another."""
        if not (is_row_of_sounds(first) and is_row_of_sounds(second)):
            return [OUT_OF_RANGE]
        laid = lay_beside(first, second, self.costs)
        return [laid[0], laid[1], len(laid[2]) // 2] + laid[2]

    def word(self, places):
        """Add a word of these places."""
        if not 1 <= len(places) <= 6 or not all([is_place(place, self.languages) for place in places]):
            return [OUT_OF_RANGE]
        if len(self.words) == MOST_WORDS:
            return [TOO_MANY]
        self.words.append(places)
        return [len(self.words) - 1]

    def patterns(self):
        """All patterns, and how many places have each."""
        counts = count_places(self.words)
        answer = [len(counts)]
        for pattern, how_many in counts.items():
            answer.extend([how_many, pattern[0]] + list(pattern[1]))
        return answer

    def olds(self):
        """Each pattern's old sound."""
        found = list(count_places(self.words))
        if len(found) > MOST_PATTERNS:
            return [TOO_MANY]
        numbers = give_old_sounds(found)
        return [max(numbers, default=-1) + 1] + numbers

    def reflex(self, sound):
        """What an old sound becomes in each surroundings and language."""
        found = list(count_places(self.words))
        if len(found) > MOST_PATTERNS:
            return [TOO_MANY]
        groups = by_old_sound(found)
        if sound >= len(groups):
            return [NOT_THERE]
        around = sorted(set([pattern[0] for pattern in groups[sound]]))
        answer = [len(around)]
        for surroundings in around:
            answer.append(surroundings)
            answer.extend([becomes(groups[sound], surroundings, language) for language in range(self.languages)])
        return answer

    def expected(self, language, asked):
        """What old sounds become in a language; asked are pairs of an old sound and surroundings."""
        found = list(count_places(self.words))
        if len(found) > MOST_PATTERNS:
            return [TOO_MANY]
        groups = by_old_sound(found)
        if language >= self.languages or any([sound >= len(groups) for sound, surroundings in asked]):
            return [NOT_THERE]
        return [0] + [becomes(groups[sound], surroundings, language) for sound, surroundings in asked]

    def leave(self, k):
        """The fewest words without which k old sounds are enough."""
        if len(count_places(self.words)) > MOST_PATTERNS:
            return [TOO_MANY]
        left_out = leave_out(self.words, k)
        return [len(left_out)] + left_out

    def tree(self, nodes):
        """Tell the tree of the languages."""
        if not has_each_once(nodes, self.languages):
            return [OUT_OF_RANGE]
        self.told_tree = nodes
        return [0]

    def scores_on(self, tree):
        """The scores of all words' places on a tree, in order."""
        scores = []
        for places in self.words:
            scores.extend([score_and_roots(tree, place[1], self.costs)[0] for place in places])
        return scores

    def score(self):
        """The scores of all words' places on the tree that was told."""
        if self.told_tree is None:
            return [NO_TREE]
        scores = self.scores_on(self.told_tree)
        return [sum(scores)] + scores

    def refused_place(self, word, place):
        """The refusal of a place that is to be looked at along the tree, or None."""
        if self.told_tree is None:
            return NO_TREE
        if word >= len(self.words) or place >= len(self.words[word]):
            return NOT_THERE
        return None

    def root(self, word, place):
        """A place's score on the tree that was told, and its roots."""
        refused = self.refused_place(word, place)
        if refused is not None:
            return [refused]
        found = score_and_roots(self.told_tree, self.words[word][place][1], self.costs)
        return [found[0], len(found[1])] + found[1]

    def states(self, word, place):
        """A place's sounds along the tree that was told."""
        refused = self.refused_place(word, place)
        if refused is not None:
            return [refused]
        return [0] + states_on(self.told_tree, self.words[word][place][1], self.costs)

    def best(self):
        """The trees on which all places together score the least."""
        trees = all_trees(self.languages)
        totals = [sum(self.scores_on(tree)) for tree in trees]
        least = min(totals)
        written = sorted([write_tree(tree) for tree, total in zip(trees, totals) if total == least])
        answer = [least, len(written)]
        for row in written:
            answer.extend(row)
        return answer


def is_row_of_sounds(row):
    """Whether the row can be laid beside another."""
    return len(row) <= 6 and all([2 <= sound <= 99 for sound in row])


def is_place(place, languages):
    """Whether a word of so many languages may have this place."""
    return place[0] <= 9 and len(place[1]) == languages and all([sound <= 99 for sound in place[1]])


def read_places(row):
    """The places that a word's row holds."""
    places = []
    at = 0
    while at < len(row):
        end = at + 2 + row[at + 1]
        places.append((row[at], tuple(row[at + 2:end])))
        at = end
    return places


def read_pairs(row):
    """The numbers of a row, two and two."""
    return [(row[at], row[at + 1]) for at in range(0, len(row), 2)]


def read_rows(calls, at, how_many):
    """So many rows that stand in the calls from there on."""
    rows = []
    while len(rows) < how_many:
        end = at + 1 + calls[at]
        rows.append(calls[at + 1:end])
        at = end
    return rows


def answer_call(family, call, numbers, rows):
    """What the family answers to one call."""
    if call == BEGINS:
        return family.begins(numbers[0])
    if call == COST:
        return family.cost(numbers[0], numbers[1], numbers[2])
    if call == BESIDE:
        return family.beside(rows[0], rows[1])
    if call == WORD:
        return family.word(read_places(rows[0]))
    if call == PATTERNS:
        return family.patterns()
    if call == OLDS:
        return family.olds()
    if call == REFLEX:
        return family.reflex(numbers[0])
    if call == EXPECTED:
        return family.expected(numbers[0], read_pairs(rows[0]))
    if call == LEAVE:
        return family.leave(numbers[0])
    if call == TREE:
        return family.tree(read_tree(rows[0]))
    if call == SCORE:
        return family.score()
    if call == ROOT:
        return family.root(numbers[0], numbers[1])
    if call == STATES:
        return family.states(numbers[0], numbers[1])
    return family.best()


def answers(calls):
    """The answers to all calls on a new family, each behind how many numbers it has."""
    family = Family()
    answered = []
    at = 0
    while at < len(calls):
        shape = SHAPES[calls[at]]
        rows_at = at + 1 + shape[0]
        rows = read_rows(calls, rows_at, shape[1])
        answer = answer_call(family, calls[at], calls[at + 1:rows_at], rows)
        answered.append(len(answer))
        answered.extend(answer)
        at = rows_at + sum([1 + len(row) for row in rows])
    return answered
