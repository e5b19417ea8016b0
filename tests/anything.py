"""Objects of many kinds, for the errors that are promised for any object."""


def nested(levels):
    """Return a list that is nested as many levels deep."""
    thing = []
    for _ in range(levels):
        thing = [thing]
    return thing


ANYTHING = [
    None, True, False, 0, 1, -1, 7, 10 ** 39, -(10 ** 39),
    "", "a", "ab", "A", "a b", "20", "\n", "-", "x" * 5000,
    (), ("a",), ("a", "b"), ("a", "b", 1), ("", "a", 0), (None, None, None), ((), [], {}),
    [], ["a"], [0], [("a", "b", 1)], [["a", "b", 1]], [[], [[]]], nested(19), list(range(4990)),
    {}, {"a": 0}, {"a": "0"}, {"a": None}, {"a": []}, {0: 0}, {"": 0}, {"A": 0}, {"a": {"b": [()]}},
]
