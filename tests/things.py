"""Values that several tests hand in."""

FORTY = 10 ** 39 + 7
NEAR_FORTY = 10 ** 40 - 1

LARGE = (FORTY, -FORTY, NEAR_FORTY, -NEAR_FORTY)


class Plain:
    """An object that is nothing that the program knows."""


def no_numbers():
    """Things that are no whole numbers, made anew for each asker."""
    return [
        True, False, None, "", "0", "1", "7", b"", b"1", 0.0, 1.0, 0.5, float("nan"), float("inf"),
        1j, (), (1,), (0, 1), (1, 2), [], [1], [0, 1], {}, {1: 2}, {0: 1, 1: 2}, set(), {1},
        frozenset({1}), range(2), Plain(), Plain, int, len, NotImplemented, ...,
    ]


def no_tuples():
    """Things that are no tuples, made anew for each asker."""
    return [0, 1, -1, FORTY] + [thing for thing in no_numbers() if not isinstance(thing, tuple)]


class Touchy:
    """An object that may be asked for nothing, not even whether it is like another one."""

    def __eq__(self, other):
        raise AssertionError("asked for ==")

    def __len__(self):
        raise AssertionError("asked for len")

    def __bool__(self):
        raise AssertionError("asked for its truth")

    __hash__ = None


def endless():
    """A list that is its own only thing."""
    thing = []
    thing.append(thing)
    return thing


def anything():
    """Things of all kinds, tuples and lists that hold odd things too; none is told of by the document."""
    return no_numbers() + [
        0, 1, -1, 10 ** 60, 10 ** 5000, -10 ** 5000, Touchy(), (Touchy(),), [Touchy()], (Touchy(),) * 3,
        [Touchy()] * 3, endless(), (endless(),) * 2, (endless(),) * 3, (endless(),) * 4, (None,) * 3, [None] * 3,
        ("",) * 3, "plain", "full", ("plain",), ("full",), ["plain", 1], ((),) * 4, [[]] * 4,
        (0,) * 1000, [0, 1] * 1000, "a" * 1000,
    ]


def wrong_whole(low, high):
    """Things that are no whole numbers from low to high, the neighbours of both ends among them."""
    return [low - 1, high + 1, -10 ** 60, 10 ** 60 + 1, 10 ** 5000, Touchy(), endless()] + no_numbers()


def no_moments():
    """Things that are no moment."""
    found = [thing for thing in anything() if type(thing) is not tuple or len(thing) != 2]
    return found + [(-1, 1), (2, 4), (0, 2), (1, 0), [1, 2], (True, 1), (1, True), (1, 2, 3), (endless(), 1)]


def no_rows():
    """Things that are no rows of bytes."""
    found = [thing for thing in anything() if type(thing) is not list or any(type(byte) is not int for byte in thing)]
    found += [[256], [-1], [0, 0, 1, True], (0, 1), b"ab", [0] * 1000 + [256]]
    return found + [[wrong] for wrong in no_numbers()]
