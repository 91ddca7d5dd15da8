"""Sounds along a tree, and the least that they cost.

What a node may be is a dict: each sound that it may have, the least first, and the least that the
changes below the node cost with it.
"""

from soundkin.sounds import UNKNOWN, change_cost
from soundkin.trees import JOINT, parts_of


def choices_of(sounds):
    """The known sounds of a place, the least first."""
    return sorted(set([sound for sound in sounds if sound != UNKNOWN]))


def cheapest_step(sound, below, costs):
    """The least that a part costs below this sound, its own change too, and the least sound that does."""
    return min([(change_cost(costs, sound, other) + rest, other) for other, rest in below.items()])


def language_may_be(own, choices):
    """What a language with this sound of its own may be."""
    return dict([(sound, 0) for sound in choices if own == UNKNOWN or own == sound])


def joint_may_be(choices, parts, costs):
    """What a node may be above parts that may be so."""
    may_be = {}
    for sound in choices:
        may_be[sound] = sum([cheapest_step(sound, below, costs)[0] for below in parts])
    return may_be


def nodes_may_be(tree, sounds, costs):
    """What each node of the tree may be, by a place's sounds."""
    choices = choices_of(sounds)
    nodes = [{} for node in tree]
    # Backwards, since a node can be weighed only when its parts are, which stand behind it.
    for at in range(len(tree) - 1, -1, -1):
        if tree[at] == JOINT:
            nodes[at] = joint_may_be(choices, [nodes[part] for part in parts_of(tree, at)], costs)
        else:
            nodes[at] = language_may_be(sounds[tree[at]], choices)
    return nodes


def cheapest_sounds(may_be):
    """The least that a node's sounds cost, 0 if there are none, and the sounds that cost so much."""
    least = min(list(may_be.values()), default=0)
    return (least, [sound for sound, below in may_be.items() if below == least])


def score_and_roots(tree, sounds, costs):
    """A place's score on the tree, and its roots, the least first."""
    return cheapest_sounds(nodes_may_be(tree, sounds, costs)[0])


def states_on(tree, sounds, costs):
    """A sound for each node: the least root, then by each node's the least that's cheapest for its parts."""
    nodes = nodes_may_be(tree, sounds, costs)
    roots = cheapest_sounds(nodes[0])[1]
    states = [UNKNOWN for node in tree]
    if len(roots) == 0:
        return states
    states[0] = roots[0]
    for at in range(len(tree)):
        for part in parts_of(tree, at):
            states[part] = cheapest_step(states[at], nodes[part], costs)[1]
    return states
