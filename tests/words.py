"""The words of the document done the long way, by search; the tests hold the program against it."""

from itertools import combinations


def chosen(ids, picks):
    """Return the ids whose bits are set in picks."""
    return [row_id for place, row_id in enumerate(ids) if picks >> place & 1]


def straight_sets(base, goal):
    """Return all straight sets, each as a list in the sequence of the goal."""
    found = []
    for picks in range(2 ** len(goal)):
        ids = chosen(goal, picks)
        if ids == sorted(ids, key=base.index):
            found.append(ids)
    return found


def weight(ids, weights):
    return sum((weights or {}).get(row_id, 1) for row_id in ids)


def best_by_search(base, goal, weights=None, favoured=()):
    """Return the best straight set, found among all straight sets."""
    def rank(ids):
        liked = len([row_id for row_id in ids if row_id in favoured])
        return (-weight(ids, weights), -liked, [goal.index(row_id) for row_id in ids])
    return min(straight_sets(base, goal), key=rank)


def cover_by_levels(base, goal, weights=None):
    """Return the level cover, made level by level."""
    levels = {}
    for row_id in goal:
        top = max(weight(ids, weights) for ids in straight_sets(base, goal) if ids and ids[-1] == row_id)
        levels[row_id] = range(top - weight([row_id], weights) + 1, top + 1)
    runs = []
    level = 1
    while any(level in some for some in levels.values()):
        ids = tuple(row_id for row_id in goal if level in levels[row_id])
        if runs and runs[-1][1] == ids:
            runs[-1] = (runs[-1][0] + 1, ids)
        else:
            runs.append((1, ids))
        level += 1
    return runs


def laid(base, pins):
    """Return the order that pins give, laid over base."""
    def with_followers(row_id):
        behind = [other for other in base if pins.get(other) == row_id]
        return [row_id] + [found for other in behind for found in with_followers(other)]
    roots = [row_id for row_id in base if pins.get(row_id) == 0] + [row_id for row_id in base if row_id not in pins]
    return [found for row_id in roots for found in with_followers(row_id)]


def pins_by_search(base, goal, weights=None, favoured=()):
    """Return the least pins for base and goal."""
    free = best_by_search(base, goal, weights, favoured)
    return {row_id: before for before, row_id in zip([0, *goal], goal) if row_id not in free}


def ends(pins):
    """Return whether going from anchor to anchor always ends."""
    for row_id in pins:
        for _ in range(len(pins)):
            row_id = pins.get(row_id, 0)
        if row_id in pins:
            return False
    return True


def all_pins(order):
    """Return all pins for the ids of an order."""
    found = [{}]
    for row_id in order:
        found += [{**pins, row_id: anchor} for pins in found for anchor in [0, *order]]
    return [pins for pins in found if ends(pins)]


def sorted_by(rule, items):
    """Return the rule's order of items, by swapping neighbours that stand wrong."""
    order = list(items)

    def comes_first(first, second):
        for column in rule:
            here, there = items[first][abs(column) - 1], items[second][abs(column) - 1]
            if here != there:
                return (here < there) == (column > 0)
        return first < second

    for _ in order:
        for place in range(len(order) - 1):
            if not comes_first(order[place], order[place + 1]):
                order[place], order[place + 1] = order[place + 1], order[place]
    return order


def moved(order, ids, behind):
    """Return an order after the move of some ids directly behind another one."""
    rest = [row_id for row_id in order if row_id not in ids]
    at = rest.index(behind) + 1 if behind else 0
    return rest[:at] + list(ids) + rest[at:]


class Model:
    """A hand-sorted list, as the document tells it: each change gives it a new order and then new pins."""

    def __init__(self, rule=()):
        self.rule, self.items, self.pins = rule, {}, {}
        self.past, self.future = [], []

    def state(self):
        return (self.rule, dict(self.items), dict(self.pins))

    def order(self):
        return laid(sorted_by(self.rule, self.items), self.pins)

    def put(self, rule, items, order, favoured):
        self.past.append(self.state())
        self.future = []
        self.rule, self.items = rule, items
        self.pins = pins_by_search(sorted_by(rule, items), order, None, favoured)

    def put_laid(self, rule, items, pins):
        order = laid(sorted_by(rule, items), pins)
        self.put(rule, items, order, [row_id for row_id in order if row_id not in pins])

    def put_fields(self, row_id, fields):
        self.put_laid(self.rule, {**self.items, row_id: fields}, self.pins)

    def put_rule(self, rule):
        self.put_laid(rule, self.items, self.pins)

    def drop(self, ids):
        order = [row_id for row_id in self.order() if row_id not in ids]
        items = {row_id: self.items[row_id] for row_id in order}
        self.put(self.rule, items, order, [row_id for row_id in order if row_id not in self.pins])

    def move(self, ids, behind):
        favoured = [row_id for row_id in self.items if row_id not in self.pins and row_id not in ids]
        self.put(self.rule, self.items, moved(self.order(), ids, behind), favoured)

    def reset(self, ids):
        pins = {row_id: anchor for row_id, anchor in self.pins.items() if row_id not in ids}
        self.put_laid(self.rule, self.items, pins)

    def undo(self):
        self.future.append(self.state())
        self.rule, self.items, self.pins = self.past.pop()

    def redo(self):
        self.past.append(self.state())
        self.rule, self.items, self.pins = self.future.pop()


def some_weights(ids, numbers):
    """Return dicts of weights: none, one heavy id each, two each, and weights that grow along the ids."""
    found = [{}]
    for number in numbers:
        found += [{row_id: number} for row_id in ids]
        found += [{first: number, second: 2} for first, second in combinations(ids, 2)]
        found.append({row_id: number + place for place, row_id in enumerate(ids)})
    return found
