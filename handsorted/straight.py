"""Straight sets: ids that two orders have in the same sequence."""

from handsorted.orders import places_of
from handsorted.weights import full_weights


def top_levels(base, goal, worths):
    """Return a dict with the greatest worth of a straight set in which the id is the last in the goal."""
    places = places_of(base)
    found = []
    levels = {}
    for row_id in goal:
        place = places[row_id]
        level = worths[row_id] + max([other for before, other in found if before < place], default=0)
        found.append((place, level))
        levels[row_id] = level
    return levels


def favoured_worths(goal, weights, favoured):
    """Return a dict from ids to worths, in which the weights decide before the number of favoured ids."""
    liked = set(favoured)
    full = full_weights(goal, weights)
    # All favoured ids together are worth less than a weight of 1.
    scale = len(goal) + 1
    return {row_id: full[row_id] * scale + (1 if row_id in liked else 0) for row_id in goal}


def best_straight(base, goal, *, weights=None, favoured=()):
    """Return the best straight set as a list in the sequence of the goal."""
    worths = favoured_worths(goal, weights, favoured)
    # The levels of the reversed orders: the greatest worth of a straight set in which the id is the first.
    levels = top_levels(base[::-1], goal[::-1], worths)
    missing = max(levels.values(), default=0)
    best = []
    # Taking the first id that can go on gives the least list of positions. If any id of the missing level
    # can go on, the first can: the base has the ids of one level in the reverse sequence.
    for row_id in goal:
        if levels[row_id] == missing:
            best.append(row_id)
            missing = missing - worths[row_id]
    return best
