"""The hand-sorted list."""

from handsorted.contents import Content, unpinned, with_item, with_move, with_rule, without_items, without_pins
from handsorted.errors import BadItem, BadMove, BadRule, TakenId, TooMany, UnknownId
from handsorted.history import Group, History
from handsorted.items import is_item, is_rule
from handsorted.orders import is_order


class HandList:
    """Items that a rule sorts, with the least pins for what was moved by hand, and a history of the changes."""

    LIMIT = 300

    def __init__(self, width, *, rule=()):
        if not is_rule(rule, width):
            raise BadRule(rule)
        self._width = width
        self._history = History(Content(rule, {}, {}))

    @classmethod
    def made(cls, width, rule, items, pins):
        """Return the list with this width, rule, items and pins, and nothing to undo or redo."""
        hand = cls(width)
        hand._history = History(Content(rule, dict(items), dict(pins)))
        return hand

    def copied(self):
        """Return a list with the same width, rule, items and pins, and nothing to undo or redo."""
        content = self._history.now
        return HandList.made(self._width, content.columns, content.table, content.anchors)

    def __eq__(self, other):
        if not isinstance(other, HandList):
            return False
        mine = self._history.now
        others = other._history.now
        if self._width != other._width or mine.columns != others.columns:
            return False
        return mine.table == others.table and mine.anchors == others.anchors

    def __len__(self):
        return len(self._history.now.table)

    @property
    def width(self):
        """The number of fields of each item."""
        return self._width

    @property
    def rule(self):
        """The rule; assigning it is the same as set_rule."""
        return self._history.now.columns

    @rule.setter
    def rule(self, value):
        self.set_rule(value)

    @property
    def order(self):
        """The ids in the order of the list."""
        return list(self._history.now.sequence)

    @property
    def pins(self):
        """The pins, as a dict from ids to anchors."""
        return dict(self._history.now.anchors)

    @property
    def straight(self):
        """The ids without a pin, in the order of the list."""
        content = self._history.now
        return unpinned(content.sequence, content.anchors)

    def fields_of(self, row_id):
        """Return the fields of an item. Raises UnknownId if there is none."""
        self._check_known([row_id])
        return self._history.now.table[row_id]

    def walk(self):
        """Yield (id, fields, anchor) in the order of the list, as it is when the iteration begins."""
        content = self._history.now
        for row_id in content.sequence:
            yield (row_id, content.table[row_id], content.anchors.get(row_id))

    def add_item(self, row_id, *fields):
        """Add an item. Raises BadItem, TakenId or TooMany."""
        content = self._history.now
        self._check_item(row_id, fields)
        if row_id in content.table:
            raise TakenId(row_id)
        if len(content.table) >= self.LIMIT:
            raise TooMany(len(content.table) + 1)
        self._history.put(with_item(content, row_id, fields))

    def drop(self, *ids):
        """Drop items. Raises BadMove or UnknownId."""
        self._check_ids(ids)
        self._history.put(without_items(self._history.now, ids))

    def set_fields(self, row_id, *fields):
        """Change the fields of an item. Raises BadItem or UnknownId."""
        self._check_item(row_id, fields)
        self._check_known([row_id])
        self._history.put(with_item(self._history.now, row_id, fields))

    def set_rule(self, rule):
        """Change the rule. Raises BadRule."""
        if not is_rule(rule, self._width):
            raise BadRule(rule)
        self._history.put(with_rule(self._history.now, rule))

    def move(self, *ids, behind=0):
        """Move ids directly behind another one, or to the top. Raises BadMove."""
        self._history.put(with_move(self._history.now, (ids, behind)))

    def reset(self, *ids):
        """Take the pins of ids away. Raises BadMove or UnknownId."""
        self._check_ids(ids)
        self._history.put(without_pins(self._history.now, ids))

    def group(self):
        """Return an object for a with statement: the changes made inside count as one."""
        return Group(self._history)

    def undo(self):
        """Take back the last change that was not undone. Raises NothingToDo."""
        self._history.undo()

    def redo(self):
        """Do the last change that was undone again. Raises NothingToDo."""
        self._history.redo()

    def _check_item(self, row_id, fields):
        if not is_item((row_id, fields), self._width):
            raise BadItem((row_id, fields))

    def _check_ids(self, ids):
        # Different ids in a list are an order.
        if not is_order(list(ids)):
            raise BadMove(ids)
        self._check_known(ids)

    def _check_known(self, ids):
        for row_id in ids:
            if row_id not in self._history.now.table:
                raise UnknownId(row_id)


def items_of(hand):
    """Return the items of a list as a dict from ids to fields."""
    return {row_id: fields for row_id, fields, _ in hand.walk()}
