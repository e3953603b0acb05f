"""Values of every kind that a caller may pass where the document says that a value may be any."""


def nested(value, depth):
    """The value within lists, tuples and dicts by turns, as deep as told."""
    for level in range(depth):
        value = ([value], (value,), {"k": value})[level % 3]
    return value


def deep_key():
    """A key of a dict that is nested as deep as any value may be."""
    value = "a"
    for _ in range(50):
        value = (value,)
    return value


def any_values():
    """New values of many kinds, none of which is a text, a standing, a move, a run or a list of starts."""
    return [
        None, True, False, 0, 1, -1, 10 ** 40, "", " ", "zz", "a b", "\n",
        (), [None], [True], [1], [[]], [["a"]], [("a",)], [{}], {}, {"a": 1}, {1: ["a"]}, {("a", 0): None},
        (1,), (None, None, None), ((), ()), (("a", 0), (0, 1, 2, 3, 4, 5, 6)), ([], []), ("a", "b", "c"),
        deep_key(), nested("a", 50), nested((), 50), nested(1, 49), nested([], 48), nested({}, 49),
    ]
