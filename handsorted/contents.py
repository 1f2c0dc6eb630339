"""What a hand-sorted list holds, and what each change makes of it."""

from handsorted.items import rule_order
from handsorted.orders import do_move
from handsorted.pins import lay, least_pins


class Content:
    """A rule, items, pins, and the order that they give. It is never changed: a change makes a new one.

    columns is the rule, table the dict from ids to fields, anchors the pins, and sequence the order.
    """

    def __init__(self, columns, table, anchors):
        self.columns = columns
        self.table = table
        self.anchors = anchors
        self.sequence = lay(rule_order(columns, table), anchors)


def unpinned(sequence, anchors):
    """Return the ids without a pin, in their sequence."""
    return [row_id for row_id in sequence if row_id not in anchors]


def settled(columns, table, sequence, favoured):
    """Return the content with a new order, which the least pins keep."""
    base = rule_order(columns, table)
    return Content(columns, table, least_pins(base, sequence, favoured=favoured))


def laid(columns, table, anchors):
    """Return the content whose order is what the pins give, laid over the rule's order."""
    sequence = lay(rule_order(columns, table), anchors)
    return settled(columns, table, sequence, unpinned(sequence, anchors))


def with_item(content, row_id, fields):
    """Return the content with an item that is new, or has new fields."""
    table = dict(content.table)
    table[row_id] = fields
    return laid(content.columns, table, content.anchors)


def with_rule(content, columns):
    """Return the content with another rule."""
    return laid(columns, content.table, content.anchors)


def without_items(content, ids):
    """Return the content without some items."""
    gone = set(ids)
    table = {row_id: fields for row_id, fields in content.table.items() if row_id not in gone}
    sequence = [row_id for row_id in content.sequence if row_id not in gone]
    return settled(content.columns, table, sequence, unpinned(sequence, content.anchors))


def with_move(content, move):
    """Return the content after a move of its order. Raises BadMove for what is not one."""
    sequence = do_move(content.sequence, move)
    ids, _ = move
    taken = set(ids)
    favoured = [row_id for row_id in unpinned(sequence, content.anchors) if row_id not in taken]
    return settled(content.columns, content.table, sequence, favoured)


def without_pins(content, ids):
    """Return the content in which some ids have no pin."""
    freed = set(ids)
    anchors = {row_id: anchor for row_id, anchor in content.anchors.items() if row_id not in freed}
    return laid(content.columns, content.table, anchors)
