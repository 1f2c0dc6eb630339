"""Scripts: moves that turn one order into another one of the same ids."""

from handsorted.covers import cover_size, is_cover
from handsorted.errors import BadMove
from handsorted.orders import do_moves
from handsorted.pins import least_pins
from handsorted.weights import total_weight


def least_script(first, second, *, weights=None):
    """Yield the moves of the least script from one order to another one."""
    # The least pins have just the ids to move, in the sequence of the second order, and where each goes.
    for row_id, before in least_pins(first, second, weights=weights).items():
        yield ((row_id,), before)


def script_weight(*moves, weights=None):
    """Return the weight of all ids in some moves, counted as often as they occur."""
    return sum([total_weight(ids, weights) for ids, _ in moves])


def is_script(first, second, moves):
    """Return whether a list of any values is a script from one order to another one."""
    try:
        reached = do_moves(first, *moves)
    except BadMove:
        return False
    return reached == second


def is_least_script(first, second, moves, cover, *, weights=None):
    """Return whether a list of any values is a script, and a complete cover shows that none weighs less."""
    if not is_script(first, second, moves) or not is_cover(first, second, cover, weights=weights):
        return False
    return cover_size(cover) == total_weight(first, weights) - script_weight(*moves, weights=weights)
