"""Names of desks and of lists."""

from handsorted.errors import NameTaken, UnknownName

MOST_LETTERS = 8
LETTERS = "abcdefghijklmnopqrstuvwxyz"


def is_name(value):
    """Return whether any value is a name."""
    if not isinstance(value, str) or not 1 <= len(value) <= MOST_LETTERS:
        return False
    return all([letter in LETTERS for letter in value])


def check_known(name, table):
    """Raise UnknownName for any value that is not a name in a dict."""
    # Only names may be looked up in a dict: other values may have no hash.
    if not is_name(name) or name not in table:
        raise UnknownName(name)


def check_free(name, table):
    """Raise UnknownName for any value that is not a name, and NameTaken for a name in a dict."""
    if not is_name(name):
        raise UnknownName(name)
    if name in table:
        raise NameTaken(name)
