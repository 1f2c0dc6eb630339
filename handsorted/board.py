"""The board: one store of items, and lists with rules and pins of their own over all of them."""

from handsorted.errors import BadRule
from handsorted.handlist import HandList, items_of
from handsorted.history import History
from handsorted.items import is_rule
from handsorted.names import check_free, check_known


class Lists:
    """The store, which is a list without a rule, and a dict from names to lists. None of them is ever changed."""

    def __init__(self, store, named):
        self.store = store
        self.named = named


class Board:
    """Items and named lists of them, with one history of all changes."""

    def __init__(self, width):
        self._history = History(Lists(HandList(width), {}))

    def __len__(self):
        return len(self._history.now.store)

    @property
    def width(self):
        """The number of fields of each item."""
        return self._history.now.store.width

    @property
    def names(self):
        """The names of the lists, ascending."""
        return sorted(self._history.now.named)

    def open_list(self, name, *, rule=()):
        """Open a list without pins. Raises UnknownName for what is not a name, NameTaken or BadRule."""
        lists = self._history.now
        check_free(name, lists.named)
        if not is_rule(rule, self.width):
            raise BadRule(rule)
        self._put_list(name, HandList.made(self.width, rule, items_of(lists.store), {}))

    def close_list(self, name):
        """Remove a list. Raises UnknownName."""
        lists = self._history.now
        check_known(name, lists.named)
        named = {other: hand for other, hand in lists.named.items() if other != name}
        self._history.put(Lists(lists.store, named))

    def add_item(self, row_id, *fields):
        """Add an item. Raises BadItem, TakenId or TooMany."""
        self._change_all(lambda hand: hand.add_item(row_id, *fields))

    def drop(self, *ids):
        """Drop items. Raises BadMove or UnknownId."""
        self._change_all(lambda hand: hand.drop(*ids))

    def set_fields(self, row_id, *fields):
        """Change the fields of an item. Raises BadItem or UnknownId."""
        self._change_all(lambda hand: hand.set_fields(row_id, *fields))

    def set_rule(self, name, rule):
        """Change the rule of a list. Raises UnknownName or BadRule."""
        self._change_one(name, lambda hand: hand.set_rule(rule))

    def move(self, name, *ids, behind=0):
        """Move ids in a list. Raises UnknownName or BadMove."""
        self._change_one(name, lambda hand: hand.move(*ids, behind=behind))

    def reset(self, name, *ids):
        """Take the pins of ids in a list away. Raises UnknownName, BadMove or UnknownId."""
        self._change_one(name, lambda hand: hand.reset(*ids))

    def list_of(self, name):
        """Return a copy of a list. Raises UnknownName."""
        return self._list(name).copied()

    def order_of(self, name):
        """Return the order of a list. Raises UnknownName."""
        return self._list(name).order

    def pins_of(self, name):
        """Return the pins of a list. Raises UnknownName."""
        return self._list(name).pins

    def fields_of(self, row_id):
        """Return the fields of an item. Raises UnknownId."""
        return self._history.now.store.fields_of(row_id)

    def undo(self):
        """Take back the last change that was not undone, with all that it did. Raises NothingToDo."""
        self._history.undo()

    def redo(self):
        """Do the last change that was undone again. Raises NothingToDo."""
        self._history.redo()

    def _list(self, name):
        named = self._history.now.named
        check_known(name, named)
        return named[name]

    def _put_list(self, name, hand):
        lists = self._history.now
        named = dict(lists.named)
        named[name] = hand
        self._history.put(Lists(lists.store, named))

    def _change_one(self, name, change):
        self._put_list(name, changed(self._list(name), change))

    def _change_all(self, change):
        lists = self._history.now
        # The store has the items of all lists: where it raises no error, no list does.
        store = changed(lists.store, change)
        self._history.put(Lists(store, {name: changed(hand, change) for name, hand in lists.named.items()}))


def changed(hand, change):
    """Return a copy of a list with which a change, a function of a list, was done."""
    result = hand.copied()
    change(result)
    return result
