"""Values of every kind that the document calls "any value", for tests of wrong inputs."""


def nested(depth, wrap):
    """Return a value that is nested as deep as asked for, by one kind of wrapping."""
    value = 7
    for _ in range(depth):
        value = wrap(value)
    return value


def any_values():
    """Return new values of every kind, none of which is an item, a rule, an order or a move.

    The deepest ones leave room for two more tuples around them: any value is nested at most 30 deep.
    """
    return [
        None, True, False, 0, 1, -1, 7, 10 ** 6, 10 ** 60 - 1, -(10 ** 60 - 1),
        "", "1", "a", "(1, 2)", "~ \n",
        {}, {1: 2}, {"a": [1]}, {(1, 2): (3,)}, {1: (1, 2)},
        (None,), (True,), (False,), ("1",), ((),), ([],), ({},), ((1,),), ([1],), ({1: 1},),
        [None], [True], [False], ["1"], [()], [[]], [{}], [(1,)], [[1]], [{1: 1}],
        (None, None), (True, True), ("1", "2"), ([], []), ({}, {}), ([1], [2]), ("ab", "cd"),
        [None, None], [1, None], [1, True], [1, "2"], [1, [2]], [1, (2,)], [1, {2: 2}],
        nested(28, lambda inner: [inner]),
        nested(28, lambda inner: (inner,)),
        nested(28, lambda inner: {1: inner}),
    ]
