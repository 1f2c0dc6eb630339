"""Texts of lists."""

from handsorted.errors import BadText
from handsorted.handlist import HandList
from handsorted.items import MOST_FIELDS, is_item, is_rule, rule_order
from handsorted.lines import read_line, write_line
from handsorted.pins import least_pins
from handsorted.values import is_within


def list_text(hand):
    """Return the text of a list."""
    lines = [write_line("list", [hand.width]), write_line("rule", hand.rule)]
    for row_id, fields, anchor in hand.walk():
        lines.append(write_line("item", [row_id, *fields], anchor))
    return "\n".join(lines)


def read_list(text):
    """Return the list of a text. Raises BadText for any value that is not the text of a list."""
    if not isinstance(text, str):
        raise BadText(text)
    lines = [read_line(line) for line in text.split("\n")]
    head, rows = lines[:2], lines[2:]
    if not is_head(head):
        raise BadText(text)
    widths, columns = [numbers for _, numbers, _ in head]
    if not are_items(rows, widths[0]):
        raise BadText(text)
    items = {numbers[0]: tuple(numbers[1:]) for _, numbers, _ in rows}
    pins = {numbers[0]: anchor for _, numbers, anchor in rows if anchor is not None}
    if len(items) < len(rows) or not are_least(tuple(columns), items, pins):
        raise BadText(text)
    return HandList.made(widths[0], tuple(columns), items, pins)


def is_head(lines):
    """Return whether some lines that were read are one with a width and one with a rule for it."""
    if [word for word, _, _ in lines] != ["list", "rule"]:
        return False
    if [anchor for _, _, anchor in lines] != [None, None]:
        return False
    widths, columns = [numbers for _, numbers, _ in lines]
    if len(widths) != 1 or not is_within(widths[0], 1, MOST_FIELDS):
        return False
    return is_rule(tuple(columns), widths[0])


def are_items(lines, width):
    """Return whether some lines that were read have items of the width, and are not too many."""
    if len(lines) > HandList.LIMIT:
        return False
    return all([word == "item" and is_item(item_of(numbers), width) for word, numbers, _ in lines])


def item_of(numbers):
    """Return the tuple (id, fields) of the integers of a line, or None if there are none."""
    return (numbers[0], tuple(numbers[1:])) if len(numbers) > 0 else None


def are_least(rule, items, pins):
    """Return whether pins are the least ones, with some favoured ids, that give the sequence of the items.

    If they are with any favoured ids, they are with those that have no pin: no straight set of this weight has more.
    """
    order = list(items)
    free = [row_id for row_id in order if row_id not in pins]
    return pins == least_pins(rule_order(rule, items), order, favoured=free)
