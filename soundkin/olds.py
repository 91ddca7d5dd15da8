"""The patterns of the words' places, and the fewest old sounds that explain them.

A place, and so a pattern, is a tuple: its surroundings, and a tuple of each language's sound.
"""

from soundkin.sounds import UNKNOWN


def count_places(words):
    """How many places have each pattern, in the order in which the patterns come first."""
    counts = {}
    for places in words:
        for place in places:
            counts[place] = counts.get(place, 0) + 1
    return counts


def may_be_one(pattern, other):
    """Whether the two patterns may be of one old sound."""
    if pattern[0] != other[0]:
        return True
    for one, another in zip(pattern[1], other[1]):
        if one != UNKNOWN and another != UNKNOWN and one != another:
            return False
    return True


def fits(patterns, given, number):
    """Whether the first pattern without a number may have this one."""
    following = patterns[len(given)]
    for pattern, taken in zip(patterns, given):
        if taken == number and not may_be_one(pattern, following):
            return False
    return True


def first_way(patterns, limit, given):
    """The first way on from the given numbers with all below limit, or None."""
    if len(given) == len(patterns):
        return given
    # The first way never skips a number: the skipped one would do as well and come before.
    for number in range(min(limit, max(given, default=-1) + 2)):
        if fits(patterns, given, number):
            way = first_way(patterns, limit, given + [number])
            if way is not None:
                return way
    return None


def give_old_sounds(patterns):
    """Each pattern's old sound: the fewest there can be, and of such ways the first."""
    limit = 0
    way = first_way(patterns, limit, [])
    while way is None:
        limit = limit + 1
        way = first_way(patterns, limit, [])
    return way


def by_old_sound(patterns):
    """Of each old sound a list of its patterns."""
    numbers = give_old_sounds(patterns)
    groups = [[] for number in range(max(numbers, default=-1) + 1)]
    for pattern, number in zip(patterns, numbers):
        groups[number].append(pattern)
    return groups


def becomes(patterns, surroundings, language):
    """What the old sound of these patterns becomes there."""
    # Patterns of one old sound never disagree, so the first known sound is the only one.
    for pattern in patterns:
        if pattern[0] == surroundings and pattern[1][language] != UNKNOWN:
            return pattern[1][language]
    return UNKNOWN


def with_one_more(choices, how_many):
    """All choices of one more out of so many words, in order."""
    longer = []
    for chosen in choices:
        for number in range(max(chosen, default=-1) + 1, how_many):
            longer.append(chosen + [number])
    return longer


def are_enough(words, limit):
    """Whether so many old sounds are enough for the words."""
    return first_way(list(count_places(words)), limit, []) is not None


def leave_out(words, limit):
    """The first of the least choices of words without which so many old sounds are enough."""
    choices = [[]]
    # This ends with all words left out at the latest: no words take no old sounds.
    while True:
        for left_out in choices:
            others = [places for number, places in enumerate(words) if number not in left_out]
            if are_enough(others, limit):
                return left_out
        choices = with_one_more(choices, len(words))
