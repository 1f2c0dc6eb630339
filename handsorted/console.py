"""The console, which does what it is told in texts."""

from handsorted.covers import level_cover
from handsorted.errors import BadCommand, BadStep
from handsorted.handlist import HandList, items_of
from handsorted.items import rule_order
from handsorted.lines import read_line
from handsorted.steps import Step
from handsorted.texts import list_text

NEW_WIDTHS = {"new 1": 1, "new 2": 2, "new 3": 3, "new 4": 4}


class Console:
    """A list, and the commands for it."""

    def __init__(self):
        self._hand = HandList(1)

    def say(self, command):
        """Execute a command and return its text. Raises BadCommand, or the errors of the list."""
        if not isinstance(command, str):
            raise BadCommand(command)
        answer = answer_of(self._hand, command)
        if answer is not None:
            return answer
        if command == "undo":
            self._hand.undo()
        elif command == "redo":
            self._hand.redo()
        elif command in NEW_WIDTHS:
            self._hand = HandList(NEW_WIDTHS[command])
        else:
            step_of(command).run(self._hand)
        return "ok"


def step_of(command):
    """Return the step whose text a command is. Raises BadCommand if it is none."""
    try:
        return Step.read(command)
    except BadStep:
        raise BadCommand(command) from None


def answer_of(hand, command):
    """Return the text that a command asks for, or None if it asks for none."""
    if command == "show":
        return spaced(hand.order)
    if command == "pins":
        return pins_text(hand)
    if command == "cover":
        return cover_text(hand)
    if command == "save":
        return list_text(hand)
    word, numbers, anchor = read_line(command)
    if word == "why" and len(numbers) == 1 and anchor is None:
        return reason(hand, numbers[0])
    return None


def spaced(ids):
    """Return the text of some ids, separated by spaces."""
    return " ".join([str(row_id) for row_id in ids])


def pins_text(hand):
    """Return the text of the pins of a list."""
    pinned = [f"{row_id} behind {anchor}" for row_id, _, anchor in hand.walk() if anchor is not None]
    return ", ".join(pinned) if len(pinned) > 0 else "none"


def cover_text(hand):
    """Return the text of the level cover of the rule's order and the list's order."""
    cover = level_cover(rule_order(hand.rule, items_of(hand)), hand.order)
    lines = [f"{times}: {spaced(ids)}" for times, ids in cover]
    return "\n".join(lines) if len(lines) > 0 else "none"


def reason(hand, row_id):
    """Return the text that tells why an id stands where it stands. Raises UnknownId for one that does not."""
    # Only for its error: an id without a pin is in the list, or unknown.
    hand.fields_of(row_id)
    pins = hand.pins
    return f"behind {pins[row_id]}" if row_id in pins else "by the rule"
