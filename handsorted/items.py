"""Items, rules, and the order that a rule gives to items."""

from handsorted.values import all_different, is_whole, is_within

GREATEST_ID = 1000000
GREATEST_FIELD = 1000000000
MOST_FIELDS = 4


def is_id(value):
    """Return whether any value may be the id of an item."""
    return is_within(value, 1, GREATEST_ID)


def are_fields(value, width):
    """Return whether any value is the fields of an item of this width."""
    if not isinstance(value, tuple) or len(value) != width:
        return False
    if not 1 <= len(value) <= MOST_FIELDS:
        return False
    return all([is_within(field, -GREATEST_FIELD, GREATEST_FIELD) for field in value])


def is_item(value, width):
    """Return whether any value is a tuple (id, fields) of an item of this width."""
    if not isinstance(value, tuple) or len(value) != 2:
        return False
    row_id, fields = value
    return is_id(row_id) and are_fields(fields, width)


def is_rule(value, width):
    """Return whether any value is a rule for this width."""
    if not isinstance(value, tuple) or len(value) > MOST_FIELDS:
        return False
    if not all([is_whole(column) for column in value]):
        return False
    columns = [abs(column) for column in value]
    return all([is_within(column, 1, width) for column in columns]) and all_different(columns)


def sort_key(rule, item):
    """Return the list of integers whose order is the rule's order of the items."""
    row_id, fields = item
    # The negative of a field puts the greater one first.
    ranks = [fields[column - 1] if column > 0 else -fields[-column - 1] for column in rule]
    return ranks + [row_id]


def compare_items(rule, first, second):
    """Return -1 if the rule puts the first item first, 1 if the second one, and 0 if neither."""
    first_key = sort_key(rule, first)
    second_key = sort_key(rule, second)
    if first_key == second_key:
        return 0
    return -1 if first_key < second_key else 1


def rule_order(rule, items):
    """Return the ids of a dict from ids to fields, in the rule's order."""
    keys = sorted([sort_key(rule, item) for item in items.items()])
    return [key[-1] for key in keys]
