"""Calls as lists of whole numbers, and their answers taken apart again."""

from soundkin.family import answers


def begins(languages):
    return [0, languages]


def cost(one, other, costs):
    return [1, one, other, costs]


def beside(first, second):
    return [2, len(first)] + first + [len(second)] + second


def word(*places):
    """Each place is its surroundings, then its sounds."""
    row = []
    for place in places:
        row += [place[0], len(place) - 1] + list(place[1:])
    return [3, len(row)] + row


def patterns():
    return [4]


def olds():
    return [5]


def reflex(sound):
    return [6, sound]


def split(answered):
    """The list of answers, one list for each call."""
    parts = []
    at = 0
    while at < len(answered):
        end = at + 1 + answered[at]
        assert answered[at] >= 1 and end <= len(answered), answered
        parts.append(answered[at + 1:end])
        at = end
    return parts


def told(*calls):
    """The answers to these calls, one list for each."""
    parts = split(answers([number for call in calls for number in call]))
    assert len(parts) == len(calls), (calls, parts)
    return parts


def last(*calls):
    """The answer to the last of these calls."""
    return told(*calls)[-1]
