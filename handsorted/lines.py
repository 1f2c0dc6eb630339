"""Lines of texts: a word, integers behind it, and perhaps an anchor."""

MOST_DIGITS = 60


def is_number(word):
    """Return whether a text is an integer, as lines have it."""
    digits = word.removeprefix("-")
    # Only ASCII, because isdigit alone takes other digits than 0 to 9.
    if not digits.isascii() or not digits.isdigit() or len(digits) > MOST_DIGITS:
        return False
    return word == "0" or digits[0] != "0"


def write_line(word, numbers, anchor=None):
    """Return the line of a word and integers, with "behind" and an anchor if there is one."""
    line = " ".join([word] + [str(number) for number in numbers])
    return line if anchor is None else f"{line} behind {anchor}"


def read_line(line):
    """Return the tuple (word, list of integers, anchor) of a line, with None for no anchor.

    The word is empty if the text is no such line, or has no word.
    """
    front, mark, last = line.partition(" behind ")
    # A space too many gives an empty part, which is no integer.
    word, *parts = front.split(" ")
    anchors = [] if mark == "" else [last]
    if not all([is_number(part) for part in parts + anchors]):
        return ("", [], None)
    return (word, [int(part) for part in parts], None if mark == "" else int(last))
