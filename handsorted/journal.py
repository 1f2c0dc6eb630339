"""The journal of a list: the steps that were done with it."""

from handsorted.errors import NothingToDo


class Journal:
    """The steps that were done with a list, and those that were undone."""

    def __init__(self, hand):
        self._hand = hand
        self._done = []
        self._undone = []

    @property
    def subject(self):
        """The list itself."""
        return self._hand

    @property
    def text(self):
        """The texts of the steps that are done, separated by newlines."""
        return "\n".join([step.text for step in self._done])

    def run(self, *steps):
        """Do steps one after the other. Raises the error of a step; the steps before it stay done."""
        for step in steps:
            step.run(self._hand)
            self._done.append(step)
            self._undone.clear()

    def undo(self):
        """Undo the last step. Raises NothingToDo if there is none, though the list may have older changes."""
        if len(self._done) == 0:
            raise NothingToDo("undo")
        self._hand.undo()
        self._undone.append(self._done.pop())

    def redo(self):
        """Do the last step that was undone again. Raises NothingToDo if there is none."""
        if len(self._undone) == 0:
            raise NothingToDo("redo")
        self._hand.redo()
        self._done.append(self._undone.pop())

    def walk(self):
        """Yield (number, text) for every step that is done when the iteration begins, from 1 on."""
        texts = [step.text for step in self._done]
        for place, text in enumerate(texts):
            yield (place + 1, text)
