"""The bounds that a film, its lanes and what is written of them have in common."""

from lanescroll.edits import is_edits
from lanescroll.errors import NoLane
from lanescroll.wholes import is_whole

GREATEST_SEAL = 10 ** 9
GREATEST_WIDE = 16
GREATEST_UNITS = 10 ** 6
MOST_LANES = 8
MOST_LEAVES = 200
MOST_EDITS = 60
GREATEST_IN_EDITS = 10 ** 30


def is_seal(thing):
    """Whether the thing is a film's seal."""
    return is_whole(thing, 0, GREATEST_SEAL)


def is_wide(thing):
    """Whether the thing tells how many cells pictures have."""
    return is_whole(thing, 1, GREATEST_WIDE)


def is_units(thing):
    """Whether the thing tells how many units of a lane a second has."""
    return is_whole(thing, 1, GREATEST_UNITS)


def is_list(thing, low, high):
    """Whether the thing is a list of low to high things."""
    return isinstance(thing, list) and low <= len(thing) <= high


def refuse_no_lane(lane, many):
    """Refuses what is none of so many lanes."""
    if not is_whole(lane, 0, many - 1):
        raise NoLane("there is no such lane")


def is_small_edit(edit):
    """Whether no top or bottom in an edit is too great for a lane."""
    for moment in edit:
        if moment is not None and max(moment) > GREATEST_IN_EDITS:
            return False
    return True


def is_lane_edits(thing):
    """Whether the thing is edits that a lane may have."""
    if not is_list(thing, 0, MOST_EDITS) or not is_edits(thing):
        return False
    return all([is_small_edit(edit) for edit in thing])
