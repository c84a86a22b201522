"""Values that several tests hand in."""

FORTY = 10 ** 39 + 7
NEAR_FORTY = 10 ** 40 - 1

LARGE = (FORTY, -FORTY, NEAR_FORTY, -NEAR_FORTY)


class Plain:
    """An object that is nothing that the program knows."""


def no_numbers():
    """Things that are no whole numbers, made anew for each asker."""
    return [
        True, False, None, "", "0", "1", "7", b"", b"1", 0.0, 1.0, 0.5, float("nan"), float("inf"),
        1j, (), (1,), (0, 1), (1, 2), [], [1], [0, 1], {}, {1: 2}, {0: 1, 1: 2}, set(), {1},
        frozenset({1}), range(2), Plain(), Plain, int, len, NotImplemented, ...,
    ]


def no_tuples():
    """Things that are no tuples, made anew for each asker."""
    return [0, 1, -1, FORTY] + [thing for thing in no_numbers() if not isinstance(thing, tuple)]
