"""What the tests ask of hand-sorted lists: all that they hold, and all that can be undone and redone."""

from handsorted.errors import NothingToDo
from handsorted.handlist import HandList


def filled(*fields, rule=(1,), width=1):
    """Return a list with the ids 1, 2, .. that have these fields."""
    hand = HandList(width, rule=rule)
    for place, field in enumerate(fields):
        hand.add_item(place + 1, *(field if isinstance(field, tuple) else (field,)))
    return hand


def items_of(hand):
    """Return the items of a list as a dict from ids to fields."""
    return {row_id: fields for row_id, fields, _ in hand.walk()}


def held(hand):
    """Return all that a list holds."""
    return (hand.width, hand.rule, items_of(hand), hand.pins, hand.order, hand.straight, list(hand.walk()), len(hand))


def steps(hand, step, look):
    """Return what the list holds after each step, as long as there is something to do."""
    found = []
    while True:
        try:
            step()
        except NothingToDo:
            return found
        found.append(look(hand))


def whole(hand, look=held):
    """Return what a list holds, what it held and will hold by each undo and redo; leave it as it is.

    It may be anything with undo and redo, if look tells what that holds.
    """
    now = look(hand)
    past = steps(hand, hand.undo, look)
    for _ in past:
        hand.redo()
    future = steps(hand, hand.redo, look)
    for _ in future:
        hand.undo()
    return (past, now, future)
