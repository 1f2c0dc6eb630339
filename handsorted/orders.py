"""Orders, which are lists of different ids, and moves of ids in them."""

from handsorted.errors import BadMove
from handsorted.items import is_id
from handsorted.values import all_different, is_whole


def is_order(value):
    """Return whether any value is an order."""
    if not isinstance(value, list):
        return False
    return all([is_id(row_id) for row_id in value]) and all_different(value)


def are_ids_of(order, value):
    """Return whether any value is a tuple of one or more different ids of the order."""
    if not isinstance(value, tuple) or len(value) == 0:
        return False
    # Only integers may be looked up in a set: other values may have no hash, or equal an integer.
    if not all([is_whole(row_id) for row_id in value]):
        return False
    known = set(order)
    return all([row_id in known for row_id in value]) and all_different(value)


def is_move(order, value):
    """Return whether any value is a move of an order."""
    if not isinstance(value, tuple) or len(value) != 2:
        return False
    ids, behind = value
    if not are_ids_of(order, ids) or not is_whole(behind):
        return False
    return behind == 0 or (behind in order and behind not in ids)


def do_move(order, move):
    """Return the order after a move. Raises BadMove for what is not a move of the order."""
    if not is_move(order, move):
        raise BadMove(move)
    ids, behind = move
    taken = set(ids)
    rest = [row_id for row_id in order if row_id not in taken]
    at = 0 if behind == 0 else rest.index(behind) + 1
    return rest[:at] + list(ids) + rest[at:]


def do_moves(order, *moves):
    """Return the order after several moves. Raises BadMove for the first that is not one at its time."""
    result = list(order)
    for move in moves:
        result = do_move(result, move)
    return result


def places_of(order):
    """Return a dict from the ids of an order to their places, from 0."""
    return {row_id: place for place, row_id in enumerate(order)}


def neighbours(order):
    """Yield the tuples (id before, id) for every id of the order, with 0 before the first one."""
    before = 0
    # A copy, because what is yielded is as the order is when the first tuple is asked for.
    for row_id in list(order):
        yield (before, row_id)
        before = row_id
