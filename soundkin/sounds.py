"""Sounds, and what a change from one to another costs."""

UNKNOWN = 0
NO_SOUND = 1

COST_UNTOLD = 10


def change_cost(costs, one, other):
    """What a change costs, by a dict of the costs that were told last."""
    return costs.get((one, other), 0 if one == other else COST_UNTOLD)
