"""The document's words about texts of steps and lists, by patterns and search, to hold the program against."""

import re
from random import Random

from tests.words import best_by_search, laid, sorted_by

NUMBER = "(?:0|-?[1-9][0-9]{0,59})"
PLAIN = (f"(?:add {NUMBER}(?: {NUMBER})*|fields {NUMBER}(?: {NUMBER})*|drop(?: {NUMBER})*|rule(?: {NUMBER})*"
         f"|reset(?: {NUMBER})*|move(?: {NUMBER})* behind {NUMBER})")
LINE = f"item {NUMBER}(?: {NUMBER})*(?: behind {NUMBER})?"


def is_step_text(value):
    """Return whether any value is the text of a step."""
    if not isinstance(value, str) or len(value) > 1000 or "G" in value:
        return False
    # Each round puts a G for every group that has no group in it.
    for _ in range(8):
        value = re.sub(rf"\( (?:(?:{PLAIN}|G)(?: ; (?:{PLAIN}|G))* )?\)", "G", value)
    return re.fullmatch(f"{PLAIN}|G", value) is not None


def plain_texts():
    """Return right texts of steps without groups, of every kind, with their words and integers."""
    big = 10 ** 60 - 1
    return ["add 3", "add 3 7", "add -3 0 -7 12", f"add {big} {-big}", "add 0", "fields 3", "fields 3 7 -8 9",
            f"fields {-big} {big} {big}", "fields 0 0", "drop", "drop 1", "drop 1 2 -3", f"drop {big} {-big}", "drop 0",
            "rule", "rule 1", "rule -1 2", "rule 0 0", f"rule {big}", "reset", "reset 5", "reset 5 -5 0",
            f"reset {-big}", "move behind 7", "move behind 0", "move 3 behind 0", "move 3 4 behind 7",
            "move -3 0 behind -7", f"move {big} {-big} behind {-big}"]


def group_texts():
    """Return right texts of groups."""
    return ["( )", "( drop )", "( rule ; move 3 4 behind 7 )", "( add 3 7 ; add 5 2 ; move 5 behind 0 )",
            "( ( ) )", "( ( ) ; ( ) )", "( ( drop ; ( reset 1 ) ) ; fields 4 -4 )", "( drop ; ( ) ; drop )",
            nested_text("drop 1", 8), nested_text("( )", 7), nested_text("( drop ; rule ; ( ) )", 6)]


def nested_text(text, depth):
    """Return the text of groups around the text of a step."""
    return "( " * depth + text + " )" * depth


def nearly(random, text):
    """Return a text that differs a little from another one: mostly it is the text of no step."""
    place = random.randrange(len(text) + 1)
    kind = random.randrange(5)
    if kind == 0:
        return text[:place] + text[place + 1:]
    if kind == 1:
        return text[:place] + random.choice(" 0-+()1;\nb") + text[place:]
    words = text.split(" ")
    at = random.randrange(len(words))
    other = random.choice(words + ["", "(", ")", ";", "0", "-0", "behind", "drop", "move", "+1", "01", "1.0", "x"])
    if kind == 2:
        words[at] = other
    elif kind == 3:
        words.insert(at, other)
    else:
        del words[at]
    return " ".join(words)


def nearly_texts(texts, many):
    """Return many texts that differ a little from some texts, the same ones in each run."""
    random = Random(15)
    found = []
    for text in texts * many:
        found.append(nearly(random, text))
        found.append(nearly(random, found[-1]))
    return found


def subsets(ids):
    """Return all lists of some of the ids."""
    return [[row_id for at, row_id in enumerate(ids) if picks >> at & 1] for picks in range(2 ** len(ids))]


def is_list_text(value):
    """Return whether any value is the text of a list; only for few items, because it tries all favoured ids."""
    if not isinstance(value, str):
        return False
    head, *rows = value.split("\n")
    rule_line, *rows = rows or [""]
    if not re.fullmatch("list [1-4]", head) or not re.fullmatch(f"rule(?: {NUMBER})*", rule_line):
        return False
    if not all(re.fullmatch(LINE, row) for row in rows) or len(rows) > 300:
        return False
    width = int(head[5:])
    rule = [int(part) for part in rule_line.split(" ")[1:]]
    if not {abs(column) for column in rule} <= set(range(1, width + 1)) or len({abs(x) for x in rule}) < len(rule):
        return False
    items, pins, order = {}, {}, []
    for row in rows:
        front, _, anchor = row.partition(" behind ")
        row_id, *fields = [int(part) for part in front.split(" ")[1:]]
        if not 1 <= row_id <= 10 ** 6 or len(fields) != width or max(abs(field) for field in fields) > 10 ** 9:
            return False
        items[row_id] = fields
        order.append(row_id)
        if anchor:
            pins[row_id] = int(anchor)
    if len(items) < len(rows):
        return False
    base = sorted_by(rule, items)
    if laid(base, pins) != order or any(anchor not in [0, *order] for anchor in pins.values()):
        return False
    free = [row_id for row_id in order if row_id not in pins]
    neighbours = dict(zip(order, [0, *order]))
    if any(neighbours[row_id] != anchor for row_id, anchor in pins.items()):
        return False
    return any(best_by_search(base, order, None, favoured) == free for favoured in subsets(order))
