"""The errors of the package. Each keeps the very value that it was made with."""


class HandError(ValueError):
    """The base class of all errors of the package."""


class BadItem(HandError):
    """A value is not an item of the width."""

    def __init__(self, value):
        self.value = value


class BadRule(HandError):
    """A value is not a rule for the width."""

    def __init__(self, value):
        self.value = value


class BadMove(HandError):
    """A value is not a move, or not what a move needs."""

    def __init__(self, value):
        self.value = value


class BadStep(HandError):
    """A value is not the text of a step."""

    def __init__(self, value):
        self.value = value


class BadText(HandError):
    """A value is not the text of a list."""

    def __init__(self, value):
        self.value = value


class BadCommand(HandError):
    """A value is not a command of the console."""

    def __init__(self, command):
        self.command = command


class UnknownId(HandError):
    """An id is not in the list."""

    def __init__(self, row_id):
        self.row_id = row_id


class TakenId(HandError):
    """An id is in the list already."""

    def __init__(self, row_id):
        self.row_id = row_id


class TooMany(HandError):
    """There would be more items than a list may have."""

    def __init__(self, count):
        self.count = count


class NothingToDo(HandError):
    """There is nothing to undo or redo."""

    def __init__(self, action):
        self.action = action


class UnknownName(HandError):
    """A value is not a name, or nothing has this name."""

    def __init__(self, name):
        self.name = name


class NameTaken(HandError):
    """Something has this name already."""

    def __init__(self, name):
        self.name = name
