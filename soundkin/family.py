"""A family of languages, and the list of calls that are made on it.

Each call answers a list of whole numbers; a refusal is a list of its number alone.
"""

from soundkin.beside import lay_beside
from soundkin.olds import becomes, count_places, give_old_sounds

OUT_OF_RANGE = -1
TOO_MANY = -5
NOT_THERE = -6

LANGUAGES_AT_FIRST = 2
MOST_COSTS = 200
MOST_WORDS = 6
MOST_PATTERNS = 8

BEGINS = 0
COST = 1
BESIDE = 2
WORD = 3
PATTERNS = 4
OLDS = 5
REFLEX = 6

# By a call's number: how many whole numbers and how many rows it has.
SHAPES = ((1, 0), (3, 0), (0, 2), (0, 1), (0, 0), (0, 0), (1, 0))


class Family:
    """What has been told of one family."""

    def __init__(self):
        self.start_over(LANGUAGES_AT_FIRST)

    def start_over(self, languages):
        """All as at a line's beginning, but for the languages."""
        self.languages = languages
        self.told = 0
        self.costs = {}
        self.words = []

    def begins(self, languages):
        """A new family of so many languages."""
        if not 2 <= languages <= 5:
            return [OUT_OF_RANGE]
        self.start_over(languages)
        return [0]

    def cost(self, one, other, costs):
        """Tell what a change costs."""
        if not (1 <= one <= 99 and 1 <= other <= 99 and costs <= 1000):
            return [OUT_OF_RANGE]
        if self.told == MOST_COSTS:
            return [TOO_MANY]
        self.costs[(one, other)] = costs
        self.told = self.told + 1
        return [self.told]

    def beside(self, first, second):
        """Lay two words beside one another."""
        if not (is_row_of_sounds(first) and is_row_of_sounds(second)):
            return [OUT_OF_RANGE]
        laid = lay_beside(first, second, self.costs)
        return [laid[0], laid[1], len(laid[2]) // 2] + laid[2]

    def word(self, places):
        """Add a word of these places."""
        if not 1 <= len(places) <= 6 or not all([is_place(place, self.languages) for place in places]):
            return [OUT_OF_RANGE]
        if len(self.words) == MOST_WORDS:
            return [TOO_MANY]
        self.words.append(places)
        return [len(self.words) - 1]

    def patterns(self):
        """All patterns, and how many places have each."""
        counts = count_places(self.words)
        answer = [len(counts)]
        for pattern, how_many in counts.items():
            answer.extend([how_many, pattern[0]] + list(pattern[1]))
        return answer

    def olds(self):
        """Each pattern's old sound."""
        found = list(count_places(self.words))
        if len(found) > MOST_PATTERNS:
            return [TOO_MANY]
        numbers = give_old_sounds(found)
        return [max(numbers, default=-1) + 1] + numbers

    def reflex(self, sound):
        """What an old sound becomes in each surroundings and language."""
        found = list(count_places(self.words))
        if len(found) > MOST_PATTERNS:
            return [TOO_MANY]
        numbers = give_old_sounds(found)
        if sound not in numbers:
            return [NOT_THERE]
        own = [pattern for pattern, number in zip(found, numbers) if number == sound]
        around = sorted(set([pattern[0] for pattern in own]))
        answer = [len(around)]
        for surroundings in around:
            answer.append(surroundings)
            answer.extend([becomes(own, surroundings, language) for language in range(self.languages)])
        return answer


def is_row_of_sounds(row):
    """Whether the row can be laid beside another."""
    return len(row) <= 6 and all([2 <= sound <= 99 for sound in row])


def is_place(place, languages):
    """Whether a word of so many languages may have this place."""
    return place[0] <= 9 and len(place[1]) == languages and all([sound <= 99 for sound in place[1]])


def read_places(row):
    """The places that a word's row holds."""
    places = []
    at = 0
    while at < len(row):
        end = at + 2 + row[at + 1]
        places.append((row[at], tuple(row[at + 2:end])))
        at = end
    return places


def read_rows(calls, at, how_many):
    """So many rows that stand in the calls from there on."""
    rows = []
    while len(rows) < how_many:
        end = at + 1 + calls[at]
        rows.append(calls[at + 1:end])
        at = end
    return rows


def answer_call(family, call, numbers, rows):
    """What the family answers to one call."""
    if call == BEGINS:
        return family.begins(numbers[0])
    if call == COST:
        return family.cost(numbers[0], numbers[1], numbers[2])
    if call == BESIDE:
        return family.beside(rows[0], rows[1])
    if call == WORD:
        return family.word(read_places(rows[0]))
    if call == PATTERNS:
        return family.patterns()
    if call == OLDS:
        return family.olds()
    return family.reflex(numbers[0])


def answers(calls):
    """The answers to all calls on a new family, each behind how many numbers it has."""
    family = Family()
    answered = []
    at = 0
    while at < len(calls):
        shape = SHAPES[calls[at]]
        rows_at = at + 1 + shape[0]
        rows = read_rows(calls, rows_at, shape[1])
        answer = answer_call(family, calls[at], calls[at + 1:rows_at], rows)
        answered.append(len(answer))
        answered.extend(answer)
        at = rows_at + sum([1 + len(row) for row in rows])
    return answered
