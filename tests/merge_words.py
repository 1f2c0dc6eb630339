"""The document's words about merging, done the long way; the tests hold the program against it."""

from tests.words import best_by_search, laid, pins_by_search, sorted_by


def moved_by_words(start, side, weights=None):
    """Return the moved ids of a side."""
    base = [row_id for row_id in start if row_id in side]
    goal = [row_id for row_id in side if row_id in start]
    kept = best_by_search(base, goal, weights)
    return [row_id for row_id in side if row_id not in kept]


def before(order, row_id):
    """Return the id directly before an id, or 0."""
    return [0, *order][order.index(row_id)]


def conflicts_by_words(start, first, second, weights=None):
    """Return the conflicts of two orders."""
    moved = (moved_by_words(start, first, weights), moved_by_words(start, second, weights))
    found = []
    for row_id in {*start, *first, *second}:
        if row_id in moved[0] and row_id in moved[1]:
            if before(first, row_id) != before(second, row_id):
                found.append(row_id)
        elif row_id in start and row_id not in second and row_id in moved[0]:
            found.append(row_id)
        elif row_id in start and row_id not in first and row_id in moved[1]:
            found.append(row_id)
    return sorted(found)


def merged_by_words(start, first, second, weights=None, prefer="first"):
    """Return the merged order, and the ids that count as moved by each side."""
    sides = (first, second)
    moved = [moved_by_words(start, side, weights) for side in sides]
    loser = 1 if prefer == "first" else 0
    moved[loser] = [row_id for row_id in moved[loser] if row_id not in moved[1 - loser]]
    merged = []
    for row_id in {*start, *first, *second}:
        dropped = row_id in start and (row_id not in first or row_id not in second)
        if not dropped or row_id in moved[0] or row_id in moved[1]:
            merged.append(row_id)

    def anchor(number, row_id):
        earlier = sides[number][:sides[number].index(row_id)]
        right = [other for other in earlier if other in merged and other not in moved[1 - number]]
        return right[-1] if right else 0

    def in_turn(one, other):
        """Return whether the first side's id stands first."""
        orders = (start, first, second)
        if not all(one in order and other in order for order in orders):
            return True
        as_start = start.index(one) < start.index(other)
        turned = [side for side in sides if (side.index(one) < side.index(other)) != as_start]
        return as_start != bool(turned)

    def with_all(row_id):
        """Return an id and everything that hangs on it; only the latter for 0."""
        hanging = [(number, other) for number in (0, 1) for other in moved[number] if anchor(number, other) == row_id]
        assert len({number for number, _ in hanging}) == len(hanging)
        ids = [other for _, other in hanging]
        if len(ids) == 2 and not in_turn(*ids):
            ids.reverse()
        return ([row_id] if row_id else []) + [found for other in ids for found in with_all(other)]

    still = [row_id for row_id in start if row_id in merged and row_id not in moved[0] + moved[1]]
    return [found for row_id in [0, *still] for found in with_all(row_id)], moved


def merged_value(old, one, other, prefer):
    """Return the merged value, and whether there is a conflict."""
    if old == one or one == other:
        return other, False
    if old == other:
        return one, False
    return {"first": one, "second": other}[prefer], True


def joined_by_words(start, first, second, prefer="first"):
    """Return (rule, items, order, pins) of the merged list and the conflicts; the lists are (rule, items, pins)."""
    lists = (start, first, second)
    rule, clash = merged_value(*[rule for rule, _, _ in lists], prefer)
    told = [("rule",)] if clash else []
    begin, one, other = [items for _, items, _ in lists]
    items, fields_told = {}, []
    for row_id in {*begin, *one, *other}:
        if row_id in one and row_id in other:
            if row_id in begin:
                items[row_id], clash = merged_value(begin[row_id], one[row_id], other[row_id], prefer)
            else:
                items[row_id], clash = (one if prefer == "first" else other)[row_id], one[row_id] != other[row_id]
        elif row_id not in begin:
            items[row_id], clash = {**one, **other}[row_id], False
        else:
            clash = {**begin, **one, **other}[row_id] != begin[row_id]
        if clash:
            fields_told.append(row_id)
    orders = []
    for _, own, pins in lists:
        order = laid(sorted_by(rule, {**own, **items}), pins)
        orders.append([row_id for row_id in order if row_id in items])
    places_told = conflicts_by_words(*orders)
    for row_id in sorted({*fields_told, *places_told}):
        told += [("fields", row_id)] * (row_id in fields_told) + [("place", row_id)] * (row_id in places_told)
    order, _ = merged_by_words(*orders, prefer=prefer)
    favoured = [row_id for row_id in order if row_id not in first[2] and row_id not in second[2]]
    return (rule, items, order, pins_by_search(sorted_by(rule, items), order, None, favoured)), told
