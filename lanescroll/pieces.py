"""Pieces: runs of a lane's leaves, and the order in which they are due."""

from lanescroll.bounds import MOST_LEAVES
from lanescroll.edits import refuse_no_moment
from lanescroll.errors import NoMany
from lanescroll.ratios import fraction
from lanescroll.wholes import is_whole


def refuse_no_many(many, most):
    """Refuses what is no count of leaves from 1 to most."""
    if not is_whole(many, 1, most):
        raise NoMany("there can't be so many leaves in a piece")


def piece(film, lane, first, many):
    """The piece of so many of a lane's leaves, from number first on."""
    leaves = film.lane_with(lane, first).leaves
    refuse_no_many(many, len(leaves) - first)
    return (film.seal, lane, first, [leaf.told() for leaf in leaves[first:first + many]])


def pieces(film, many=8):
    """All pieces of a film: lane by lane, its leaves by runs of many."""
    refuse_no_many(many, MOST_LEAVES)
    found = []
    for lane in range(len(film)):
        count = film.many(lane)
        for first in range(0, count, many):
            found.append(piece(film, lane, first, min(many, count - first)))
    return found


def due_from(film, lane, number):
    """The moment of the lane's own time from which on the leaf is needed."""
    found = film.lane_with(lane, number)
    return fraction(found.dues(film.wide)[number], found.scale)


def due_unit(film, told):
    """The unit of its lane from which on the first of a piece's leaves is needed."""
    seal, lane, first, leaves = told
    return min(film.found_lane(lane).dues(film.wide)[first:first + len(leaves)])


def stretch_units(leaves):
    """The pair of the least begin and the greatest end of leaves as told."""
    ends = [begin + span for kind, begin, span, held in leaves]
    return (min([leaf[1] for leaf in leaves]), max(ends))


def ordered(film, pieces):
    """The list of these pieces of the film, sorted by their dues."""
    common = 1
    for lane in range(len(film)):
        common *= film.units(lane)
    rows = []
    for place, told in enumerate(pieces):
        seal, lane, first, leaves = told
        # Dues of lanes of unlike units are held against one another in parts that all units have in common.
        due = due_unit(film, told) * (common // film.units(lane))
        rows.append((due, lane, first, len(leaves), place))
    found = []
    for row in sorted(rows):
        seal, lane, first, leaves = pieces[row[-1]]
        found.append((seal, lane, first, list(leaves)))
    return found


def read_by(film, pieces, t):
    """How many of the pieces, in their order, must be read till all that are due at t or ahead of it are."""
    refuse_no_moment(t)
    many = 0
    for place, told in enumerate(pieces):
        if due_unit(film, told) * t[1] <= t[0] * film.units(told[1]):
            many = place + 1
    return many
