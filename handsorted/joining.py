"""Joining two hand-sorted lists that come from one."""

from handsorted.errors import BadMove, TooMany
from handsorted.handlist import HandList, items_of
from handsorted.items import rule_order
from handsorted.merging import conflicts, merge_orders
from handsorted.pins import lay, least_pins


def merged_value(old, one, other, prefer):
    """Return the merged value of both sides' values, and whether they are in conflict."""
    if one in (old, other):
        return (other, False)
    if other == old:
        return (one, False)
    return (one if prefer == "first" else other, True)


def merged_items(start, first, second, prefer):
    """Return the merged items, and the ids whose fields are in conflict, from three dicts of items."""
    items = {}
    clashes = []
    for row_id in sorted(set(list(start) + list(first) + list(second))):
        found = [side[row_id] for side in (first, second) if row_id in side]
        clash = False
        if len(found) == 2:
            # An item that both have added has no old fields: it is in conflict if the fields differ.
            items[row_id], clash = merged_value(start.get(row_id), found[0], found[1], prefer)
        elif row_id not in start:
            items[row_id] = found[0]
        elif len(found) == 1:
            clash = found[0] != start[row_id]
        if clash:
            clashes.append(row_id)
    return (items, clashes)


def order_in(hand, rule, items):
    """Return the order of the merged items that the pins of a list give, laid over the merged rule's order."""
    table = items_of(hand)
    for row_id, fields in items.items():
        table[row_id] = fields
    return [row_id for row_id in lay(rule_order(rule, table), hand.pins) if row_id in items]


def told(rule_clash, fields, places):
    """Return the list of all conflicts, from the ids whose fields and whose places are in conflict."""
    found = [("rule",)] if rule_clash else []
    for row_id in sorted(set(fields + places)):
        if row_id in fields:
            found.append(("fields", row_id))
        if row_id in places:
            found.append(("place", row_id))
    return found


def join_lists(start, first, second, *, prefer="first"):
    """Return the merged list of two lists that come from a start list, and the list of the conflicts.

    Raises BadMove if the widths differ, and TooMany if there would be too many items.
    """
    if first.width != start.width or second.width != start.width:
        raise BadMove((start.width, first.width, second.width))
    rule, rule_clash = merged_value(start.rule, first.rule, second.rule, prefer)
    items, clashes = merged_items(items_of(start), items_of(first), items_of(second), prefer)
    if len(items) > HandList.LIMIT:
        raise TooMany(len(items))
    orders = [order_in(hand, rule, items) for hand in (start, first, second)]
    order = merge_orders(*orders, prefer=prefer)
    pinned = list(first.pins) + list(second.pins)
    favoured = [row_id for row_id in order if row_id not in pinned]
    pins = least_pins(rule_order(rule, items), order, favoured=favoured)
    return (HandList.made(start.width, rule, items, pins), told(rule_clash, clashes, conflicts(*orders)))
