"""Two words laid beside one another at the least cost.

What is known of the rows from some place on is a tuple: the least that they cost, how many rows
cost so much, and the first of these, its pairs written one behind another.
"""

from soundkin.sounds import NO_SOUND, change_cost


def with_pair(one, other, rest, costs):
    """What is known of the rows that have this pair before what's told as rest."""
    return (change_cost(costs, one, other) + rest[0], rest[1], [one, other] + rest[2])


def choices_at(first, second, i, j, known, costs):
    """Each next pair's rows when i and j sounds are laid already, in the order of rows."""
    if i == len(first) and j == len(second):
        return [(0, 1, [])]
    found = []
    if i < len(first) and j < len(second):
        found.append(with_pair(first[i], second[j], known[(i + 1, j + 1)], costs))
    if i < len(first):
        found.append(with_pair(first[i], NO_SOUND, known[(i + 1, j)], costs))
    if j < len(second):
        found.append(with_pair(NO_SOUND, second[j], known[(i, j + 1)], costs))
    return found


def cheapest(choices):
    """The choices that cost the least, taken together."""
    least = min([choice[0] for choice in choices])
    kept = [choice for choice in choices if choice[0] == least]
    return (least, sum([choice[1] for choice in kept]), kept[0][2])


def lay_beside(first, second, costs):
    """What is known of all rows of the two words."""
    known = {}
    # Backwards, since a pair can be weighed only when what stands behind it is known.
    for i in range(len(first), -1, -1):
        for j in range(len(second), -1, -1):
            known[(i, j)] = cheapest(choices_at(first, second, i, j, known, costs))
    return known[(0, 0)]
