"""The office: a main list, and desks with lists of their own that come from it."""

from handsorted.joining import join_lists
from handsorted.names import check_free, check_known


class Desk:
    """A list, and its base: a copy of the main list as it was when the list last took all of it in."""

    def __init__(self, hand, base):
        self.hand = hand
        self.base = base


class Office:
    """A main list and desks, which have names."""

    def __init__(self, hand):
        self._main = hand.copied()
        self._desks = {}

    def main(self):
        """Return a copy of the main list."""
        return self._main.copied()

    @property
    def names(self):
        """The names of the desks, ascending."""
        return sorted(self._desks)

    def open_desk(self, name):
        """Open a desk. Raises UnknownName for what is not a name, and NameTaken."""
        check_free(name, self._desks)
        self._desks[name] = Desk(self.main(), self.main())

    def desk(self, name):
        """Return the list of a desk itself. Raises UnknownName."""
        check_known(name, self._desks)
        return self._desks[name].hand

    def close_desk(self, name):
        """Remove a desk. Raises UnknownName."""
        check_known(name, self._desks)
        del self._desks[name]

    def bring_up(self, name, *, prefer="first"):
        """Merge the main list into the list of a desk; return the conflicts. Raises UnknownName or TooMany."""
        check_known(name, self._desks)
        desk = self._desks[name]
        joined, told = join_lists(desk.base, desk.hand, self._main, prefer=prefer)
        self._desks[name] = Desk(joined, self.main())
        return told

    def hand_in(self, name, *, prefer="first"):
        """Merge the list of a desk into the main list; return the conflicts. Raises UnknownName or TooMany."""
        check_known(name, self._desks)
        desk = self._desks[name]
        joined, told = join_lists(desk.base, self._main, desk.hand, prefer=prefer)
        self._main = joined
        self._desks[name] = Desk(self.main(), self.main())
        return told
