"""Covers, which show that a straight set is the best one and that pins are the least ones."""

from handsorted.orders import places_of
from handsorted.pins import is_pins, lay
from handsorted.straight import favoured_worths, top_levels
from handsorted.values import is_whole
from handsorted.weights import full_weights, total_weight


def level_cover(base, goal, *, weights=None):
    """Return the level cover of two orders of the same ids."""
    full = full_weights(goal, weights)
    tops = top_levels(base, goal, full)
    floors = {row_id: tops[row_id] - full[row_id] for row_id in goal}
    # Between two bounds that follow each other, all levels have the same ids.
    bounds = sorted(set(list(floors.values()) + list(tops.values())))
    cover = []
    for low, high in zip(bounds, bounds[1:]):
        ids = [row_id for row_id in goal if floors[row_id] <= low and high <= tops[row_id]]
        cover.append((high - low, tuple(ids)))
    return cover


def exact_weights(goal, *, weights=None, favoured=()):
    """Return the exact weights, by which only one straight set is the best, as a dict."""
    worths = favoured_worths(goal, weights, favoured)
    many = len(goal)
    return {row_id: (worths[row_id] << many) + (1 << (many - 1 - place)) for place, row_id in enumerate(goal)}


def is_chain(places, ids):
    """Return whether any values are different ids, in the sequence of their places."""
    if not all([is_whole(row_id) for row_id in ids]):
        return False
    if not all([row_id in places for row_id in ids]):
        return False
    found = [places[row_id] for row_id in ids]
    return all([before < after for before, after in zip(found, found[1:])])


def is_run(ahead, back, value):
    """Return whether any value is a run: ahead has the places in the goal, back those in the reversed base."""
    if not isinstance(value, tuple) or len(value) != 2:
        return False
    times, ids = value
    if not is_whole(times) or times < 1:
        return False
    if not isinstance(ids, tuple) or len(ids) == 0:
        return False
    return is_chain(ahead, ids) and is_chain(back, ids)


def times_of(cover):
    """Return a dict from the ids in a cover to the sum of the times of their runs."""
    covered = {}
    for times, ids in cover:
        for row_id in ids:
            covered[row_id] = covered.get(row_id, 0) + times
    return covered


def cover_size(cover):
    """Return the size of a cover: the sum of all times."""
    return sum([times for times, _ in cover])


def is_cover(base, goal, cover, *, weights=None):
    """Return whether a list of any values is a complete cover."""
    ahead = places_of(goal)
    back = places_of(base[::-1])
    if not all([is_run(ahead, back, run) for run in cover]):
        return False
    covered = times_of(cover)
    full = full_weights(goal, weights)
    return all([covered.get(row_id, 0) >= full[row_id] for row_id in goal])


def is_best(base, goal, ids, cover, *, weights=None, favoured=()):
    """Return whether ids are a straight set that a complete cover for the exact weights shows to be the best."""
    if not is_chain(places_of(goal), ids) or not is_chain(places_of(base), ids):
        return False
    exact = exact_weights(goal, weights=weights, favoured=favoured)
    return is_cover(base, goal, cover, weights=exact) and cover_size(cover) == total_weight(ids, exact)


def is_least(base, goal, pins, cover, *, weights=None):
    """Return whether any dict is pins that give the goal, and a complete cover shows that none cost less."""
    if not is_pins(goal, pins) or lay(base, pins) != goal:
        return False
    free = [row_id for row_id in goal if row_id not in pins]
    return is_cover(base, goal, cover, weights=weights) and cover_size(cover) == total_weight(free, weights)
