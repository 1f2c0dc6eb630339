"""Pins, which keep what was moved by hand, and laying them over an order."""

from handsorted.orders import neighbours
from handsorted.straight import best_straight
from handsorted.values import is_whole
from handsorted.weights import total_weight


def is_pins(order, value):
    """Return whether any value is pins for the ids of an order."""
    if not isinstance(value, dict):
        return False
    # Only integers may be looked up in a set: other values may have no hash, or equal an integer.
    if not all([is_whole(row_id) and is_whole(anchor) for row_id, anchor in value.items()]):
        return False
    known = set(order)
    if not all([row_id in known for row_id in value]):
        return False
    # What hangs on a circle, or on an id that is not in the order, is laid nowhere.
    return len(lay(order, value)) == len(order)


def lay(base, pins):
    """Return the order that pins give, laid over a base order."""
    hung = {}
    for row_id in base:
        if row_id in pins:
            hung.setdefault(pins[row_id], []).append(row_id)
    return spread([row_id for row_id in base if row_id not in pins], hung)


def spread(loose, hung):
    """Return the ids that hang on the top, then the loose ones, each followed at once by what hangs on it.

    hung is a dict from anchors to lists of ids, in the sequence in which they stand behind the anchor.
    """
    # What stands first is taken first: from the end of the list.
    waiting = (hung.get(0, []) + loose)[::-1]
    order = []
    while len(waiting) > 0:
        row_id = waiting.pop()
        order.append(row_id)
        waiting.extend(hung.get(row_id, [])[::-1])
    return order


def least_pins(base, goal, *, weights=None, favoured=()):
    """Return the least pins that give the goal, laid over base; their ids come in the sequence of the goal."""
    free = set(best_straight(base, goal, weights=weights, favoured=favoured))
    return {row_id: before for before, row_id in neighbours(goal) if row_id not in free}


def pin_cost(pins, *, weights=None):
    """Return the weight of the pinned ids."""
    return total_weight(list(pins), weights)


def hanging(pins, row_id):
    """Return a list of the ids that are pinned to an id, or to the top, directly or through others."""
    hung = {}
    for pinned, anchor in pins.items():
        hung.setdefault(anchor, []).append(pinned)
    waiting = [row_id]
    found = []
    while len(waiting) > 0:
        nearest = hung.get(waiting.pop(), [])
        found.extend(nearest)
        waiting.extend(nearest)
    return found


def followers(pins, row_id):
    """Yield the ids that are pinned to an id, or to the top, directly or through others, in ascending order."""
    for follower in sorted(hanging(pins, row_id)):
        yield follower
