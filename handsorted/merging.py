"""Merging the orders that two people have made from one."""

from handsorted.orders import neighbours, places_of
from handsorted.pins import spread
from handsorted.straight import best_straight


def among(order, ids):
    """Return the ids of an order that are among some ids, too."""
    known = set(ids)
    return [row_id for row_id in order if row_id in known]


def without(order, ids):
    """Return the ids of an order that are not among some ids."""
    known = set(ids)
    return [row_id for row_id in order if row_id not in known]


def moved_ids(start, side, *, weights=None):
    """Return the moved ids of a side, new ones included, in the sequence of the side."""
    return without(side, best_straight(among(start, side), among(side, start), weights=weights))


def conflicts(start, first, second, *, weights=None):
    """Return the ids of the conflicts, in ascending order."""
    first_moved = moved_ids(start, first, weights=weights)
    second_moved = moved_ids(start, second, weights=weights)
    first_places = {row_id: before for before, row_id in neighbours(first)}
    second_places = {row_id: before for before, row_id in neighbours(second)}
    both = among(first_moved, second_moved)
    apart = [row_id for row_id in both if first_places[row_id] != second_places[row_id]]
    # In the start and moved by one side, but dropped by the other.
    first_lost = without(among(first_moved, start), second)
    second_lost = without(among(second_moved, start), first)
    return sorted(apart + first_lost + second_lost)


def hangers(side, loose, moved):
    """Return a dict from anchors to the id of the moved ones that hangs on each."""
    known = set(moved)
    # Only what is in the merged order and was not moved by the other side can be an anchor.
    path = among(side, loose + moved)
    return {before: row_id for before, row_id in neighbours(path) if row_id in known}


def in_sequence(one, other, places):
    """Return the first side's id and the second side's one, as they stand behind their common anchor.

    places are the dicts of places in the start and in both sides' orders.
    """
    if not all([one in known and other in known for known in places]):
        return [one, other]
    ways = [known[one] < known[other] for known in places]
    # The sequence of the start, unless a side has them the other way round.
    stays = all(ways) if ways[0] else any(ways)
    return [one, other] if stays else [other, one]


def merge_orders(start, first, second, *, weights=None, prefer="first"):
    """Return the merged order of two sides' orders."""
    first_moved = moved_ids(start, first, weights=weights)
    second_moved = moved_ids(start, second, weights=weights)
    # What both have moved counts as moved by the preferred side alone.
    if prefer == "first":
        second_moved = without(second_moved, first_moved)
    else:
        first_moved = without(first_moved, second_moved)
    loose = without(among(among(start, first), second), first_moved + second_moved)
    hung = {anchor: [row_id] for anchor, row_id in hangers(first, loose, first_moved).items()}
    places = [places_of(start), places_of(first), places_of(second)]
    for anchor, row_id in hangers(second, loose, second_moved).items():
        hung[anchor] = in_sequence(hung[anchor][0], row_id, places) if anchor in hung else [row_id]
    return spread(loose, hung)
