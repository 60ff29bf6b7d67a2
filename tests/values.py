"""Values of many kinds, for parameters that accept any value."""


def nested(depth):
    """A list that is nested so many levels deep."""
    value = []
    for _ in range(depth - 1):
        value = [value]
    return value


def nested_dict(depth):
    """A dict that is nested so many levels deep."""
    value = {}
    for _ in range(depth - 1):
        value = {"x": value}
    return value


def any_values():
    """New values of each kind, none of them a name, a room, lines or a text."""
    return [
        None, True, False, 0, -1, -2, 33, 10 ** 5000, -(10 ** 5000),
        "", " ", "X", "1", "\n", "abcdefghi", "a\u00e9", "\ud800",
        (), (1,), ("x",), (("x",), ("y",)), ([],),
        [], [[]], [None], [1], ["x"], [True], [{}],
        {}, {"x": None}, {None: 1}, {1: "x"}, {"x": [1]}, {("x",): 1},
        nested(50), nested_dict(50),
    ]
