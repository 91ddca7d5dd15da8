"""Calls as lists of whole numbers, their answers taken apart again, and sounds along a tree by trying them all.

A tree is here a language, or a tuple of two trees.
"""

import itertools

from soundkin.family import answers


def begins(languages):
    return [0, languages]


def cost(one, other, costs):
    return [1, one, other, costs]


def beside(first, second):
    return [2, len(first)] + first + [len(second)] + second


def word(*places):
    """Each place is its surroundings, then its sounds."""
    row = []
    for place in places:
        row += [place[0], len(place) - 1] + list(place[1:])
    return [3, len(row)] + row


def patterns():
    return [4]


def olds():
    return [5]


def reflex(sound):
    return [6, sound]


def expected(language, *asked):
    """Each thing that is asked is an old sound and surroundings."""
    row = [number for pair in asked for number in pair]
    return [7, language, len(row)] + row


def leave(k):
    return [8, k]


def written(shape):
    """The numbers of a tree."""
    if isinstance(shape, int):
        return [0, shape]
    return [1] + written(shape[0]) + written(shape[1])


def tree(shape):
    return [9, len(written(shape))] + written(shape)


def score():
    return [10]


def root(number, place):
    return [11, number, place]


def states(number, place):
    return [12, number, place]


def best():
    return [13]


def split(answered):
    """The list of answers, one list for each call."""
    parts = []
    at = 0
    while at < len(answered):
        end = at + 1 + answered[at]
        assert answered[at] >= 1 and end <= len(answered), answered
        parts.append(answered[at + 1:end])
        at = end
    return parts


def told(*calls):
    """The answers to these calls, one list for each."""
    parts = split(answers([number for call in calls for number in call]))
    assert len(parts) == len(calls), (calls, parts)
    return parts


def last(*calls):
    """The answer to the last of these calls."""
    return told(*calls)[-1]


def nodes_of(shape, above=None, found=None):
    """Each node before its parts: its language, or None, and where the node above it stands."""
    found = [] if found is None else found
    own = len(found)
    found.append((shape if isinstance(shape, int) else None, above))
    for part in () if isinstance(shape, int) else shape:
        nodes_of(part, own, found)
    return found


def cheapest_along(shape, sounds, costs):
    """The least cost, and all sounds along the tree that cost so much, in order."""
    choices = sorted(set(sounds) - {0})
    nodes = nodes_of(shape)
    if not choices:
        return 0, []
    own = [[sounds[language]] if language is not None and sounds[language] else choices for language, above in nodes]
    weighed = [(sum(costs.get((along[above], sound), 10 * (along[above] != sound))
                    for sound, (language, above) in zip(along, nodes) if above is not None), along)
               for along in itertools.product(*own)]
    least = min(weighed)[0]
    return least, sorted(list(along) for total, along in weighed if total == least)


def all_shapes(languages):
    """All trees of these languages, by all ways to part them in two."""
    if len(languages) == 1:
        return list(languages)
    shapes = []
    for number in range(len(languages) - 1):
        for others in itertools.combinations(languages[1:], number):
            first = languages[:1] + others
            second = tuple(language for language in languages if language not in first)
            shapes += itertools.product(all_shapes(first), all_shapes(second))
    return shapes


def random_shape(source, languages):
    """Some tree of these languages, in any order."""
    if len(languages) == 1:
        return languages[0]
    mixed = source.sample(languages, len(languages))
    at = source.randint(1, len(mixed) - 1)
    return random_shape(source, mixed[:at]), random_shape(source, mixed[at:])


def random_costs(source, sounds, how_many):
    """Costs of some changes between these sounds, the told last alone."""
    return {(source.choice(sounds), source.choice(sounds)): source.choice([0, 1, 3, 5, 7, 10, 20])
            for number in range(how_many)}


def tell_costs(costs):
    return [cost(one, other, costs[one, other]) for one, other in costs]
