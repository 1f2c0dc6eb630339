"""Weights of ids: the ids that a dict of weights does not have weigh 1."""


def full_weights(ids, weights):
    """Return a dict with the weight of every one of the ids; weights may be None."""
    given = {} if weights is None else weights
    return {row_id: given.get(row_id, 1) for row_id in ids}


def total_weight(ids, weights):
    """Return the sum of the weights of ids, counted as often as they occur; weights may be None."""
    given = {} if weights is None else weights
    return sum([given.get(row_id, 1) for row_id in ids])
