"""Questions about values, which several modules ask."""


def is_whole(value):
    """Return whether any value is an integer: True and False are none."""
    return isinstance(value, int) and not isinstance(value, bool)


def is_within(value, low, high):
    """Return whether any value is an integer between two others, both included."""
    return is_whole(value) and low <= value <= high


def all_different(numbers):
    """Return whether no integer occurs twice in a list or tuple of integers."""
    return len(set(numbers)) == len(numbers)
