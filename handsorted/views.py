"""Views, which show some of the items of a list."""

from handsorted.errors import BadMove
from handsorted.orders import is_move


class ListView:
    """The items of a list whose fields in some columns are between two integers, always as the list is."""

    def __init__(self, hand, column, low, high):
        self._hand = hand
        self._limits = [(column, low, high)]

    def narrowed(self, column, low, high):
        """Return a view of the items that this view shows and whose field in a column is between two integers."""
        view = ListView(self._hand, column, low, high)
        view._limits = view._limits + self._limits
        return view

    def __len__(self):
        return len(self.visible())

    def visible(self):
        """Return the order of the view: the ids that it shows, in the sequence of the list."""
        # Not by walk, which yields: __len__ asks this, and goes through plain methods and properties alone.
        return [row_id for row_id in self._hand.order if self._shows(self._hand.fields_of(row_id))]

    def hidden(self):
        """Return the other ids of the list, in its sequence."""
        return [row_id for row_id in self._hand.order if not self._shows(self._hand.fields_of(row_id))]

    def walk(self):
        """Yield (id, fields) of the visible items in their order, as the list is when the iteration begins."""
        for row_id, fields, _ in self._hand.walk():
            if self._shows(fields):
                yield (row_id, fields)

    def move(self, *ids, behind=0):
        """Do a move of the view's order with the list. Raises BadMove for what is not one."""
        visible = self.visible()
        if not is_move(visible, (ids, behind)):
            raise BadMove((ids, behind))
        anchor = behind if behind != 0 else anchor_of_top(self._hand.order, visible, ids)
        self._hand.move(*ids, behind=anchor)

    def _shows(self, fields):
        return all([low <= fields[column - 1] <= high for column, low, high in self._limits])


def anchor_of_top(order, visible, ids):
    """Return what ids that are moved to the top of a view go behind in the order of the list, or 0 for its top."""
    moved = set(ids)
    stays = [row_id for row_id in visible if row_id not in moved]
    # Where no visible id stays, the moved ids go to where the first of them stands.
    front = stays[0] if len(stays) > 0 else visible[0]
    before = [row_id for row_id in order[:order.index(front)] if row_id not in moved]
    return before[-1] if len(before) > 0 else 0
