"""Values of every kind that a callable for "any value" accepts: no floats, depth up to 8, up to 25,000 parts."""


class Stranger:
    """An object that the package knows nothing about and that has neither an order nor a length."""


class Agreeing:
    """An object that says to be equal to everything."""

    def __eq__(self, other):
        return True


def nested(depth):
    """Return lists inside each other, so many deep."""
    found = []
    for _ in range(depth - 1):
        found = [found]
    return found


def integers():
    """Return a new list of integers."""
    return [0, 1, 2, -1, -2, 10 ** 18, 10 ** 30, 10 ** 39, -10 ** 39, 10 ** 40, -10 ** 60, 10 ** 5000, -10 ** 5000]


def no_integers():
    """Return a new list of values, no integers, none of which is a set, bounds, bundles or leads of 3 bundles."""
    return [
        None, True, False, "", "0", "(0, 1)", "a\nb", "x" * 100000, b"", b"\x00\x01",
        (0,), ("0", "1"), (None, None), (True, False), ((0, 1), (0, 1)), ((), ()), (None, 0, 0), (0, 0, "0"),
        [None], ["0", "1"], [True, False], [[0, 1], [0, 1]], [(), ()], [("0", "1"), ("0", "1")], [{}, {}],
        {}, {0: 1}, {"a": []}, set(), {0, 1}, frozenset([0]), range(3), Stranger(), Stranger, len, lambda: 0,
        nested(8), [None] * 24999, (None,) * 24999, ["ab"] * 45, iter([]), Ellipsis, ValueError("why"),
    ]


def any_values():
    """Return a new list of all of these."""
    return integers() + no_integers()
