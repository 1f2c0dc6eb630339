"""The history of changes: what was before each change, and what each undone change had made."""

from handsorted.errors import NothingToDo


class History:
    """The state as it is now, and the states to go back and forth to. No state is ever changed itself."""

    def __init__(self, state):
        self.now = state
        self.past = []
        self.future = []

    def put(self, state):
        """Make a change, after which there is this state."""
        self.past.append(self.now)
        self.future = []
        self.now = state

    def undo(self):
        """Go back to the state before the last change. Raises NothingToDo if there is none."""
        if len(self.past) == 0:
            raise NothingToDo("undo")
        self.future.append(self.now)
        self.now = self.past.pop()

    def redo(self):
        """Do the last undone change again. Raises NothingToDo if there is none."""
        if len(self.future) == 0:
            raise NothingToDo("redo")
        self.past.append(self.now)
        self.now = self.future.pop()


class Group:
    """For a with statement: the changes made inside count as one, and an error takes them back."""

    def __init__(self, history):
        self._history = history
        self._now = None
        self._past = []
        self._future = []

    def __enter__(self):
        history = self._history
        self._now = history.now
        # Copies, because the changes inside change the lists of the history.
        self._past = list(history.past)
        self._future = list(history.future)
        return self

    def __exit__(self, kind, value, trace):
        history = self._history
        if kind is None:
            history.past = self._past + [self._now]
            history.future = []
        else:
            history.now = self._now
            history.past = self._past
            history.future = self._future
