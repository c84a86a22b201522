"""Films: lanes of leaves, with edits that lead the film's moments to a lane's."""

from lanescroll.bounds import (
    MOST_LANES, MOST_LEAVES, is_lane_edits, is_list, is_seal, is_units, is_wide, refuse_no_lane,
)
from lanescroll.chains import first_begins
from lanescroll.edits import led, refuse_no_moment, summed_spans
from lanescroll.errors import NoFilm, NoLeaf, NoNumber
from lanescroll.leaves import fits, is_shown, leaf_of, unit_at
from lanescroll.ratios import less
from lanescroll.wholes import is_whole


class Lane:
    """One lane of a film: scale is its units to the second, leading its edits."""

    def __init__(self, scale, leaves, leading):
        self.scale = scale
        self.leaves = leaves
        self.leading = leading
        # The plain reading and the dues, made when they are asked for first: a lane never changes.
        self.reading = None
        self.due_units = None

    def told(self):
        """The tuple that tells the lane."""
        return (self.scale, [leaf.told() for leaf in self.leaves], list(self.leading))

    def pictures(self, wide):
        """The pictures of all leaves, by number."""
        if self.reading is None:
            self.reading = plain_reading(self.leaves, wide)
        return self.reading

    def dues(self, wide):
        """The units from which on the leaves are needed, by number."""
        if self.due_units is None:
            self.due_units = first_begins(self.leaves, wide)
        return self.due_units

    def number_at(self, x):
        """The number of the leaf that is shown at a moment of the lane's own time, or None."""
        unit = unit_at(x, self.scale)
        for number, leaf in enumerate(self.leaves):
            if is_shown(leaf, unit):
                return number
        return None


class Film:
    """A film, made by film_of."""

    def __init__(self, seal, wide, lanes):
        self.seal = seal
        self.wide = wide
        self.lanes = lanes

    def __len__(self):
        return len(self.lanes)

    def __eq__(self, other):
        return isinstance(other, Film) and self.told() == other.told()

    def found_lane(self, lane):
        """The Lane of this number."""
        refuse_no_lane(lane, len(self.lanes))
        return self.lanes[lane]

    def lane_with(self, lane, number):
        """The Lane of this number, which must have a leaf of that one."""
        found = self.found_lane(lane)
        if not is_whole(number, 0, len(found.leaves) - 1):
            raise NoNumber("the lane has no such leaf")
        return found

    def lane_for(self, lane, moment):
        """The Lane of this number, asked for a moment."""
        found = self.found_lane(lane)
        refuse_no_moment(moment)
        return found

    def told(self):
        """The tuple that tells the film."""
        return (self.seal, self.wide, [lane.told() for lane in self.lanes])

    def units(self, lane):
        """How many units of the lane a second has."""
        return self.found_lane(lane).scale

    def many(self, lane):
        """How many leaves the lane has."""
        return len(self.found_lane(lane).leaves)

    def edits(self, lane):
        """The lane's edits."""
        return list(self.found_lane(lane).leading)

    def told_leaf(self, lane, number):
        """A leaf of the lane, as told."""
        return self.lane_with(lane, number).leaves[number].told()

    def length(self):
        """The greatest total of the lanes' edits."""
        greatest = (0, 1)
        for lane in self.lanes:
            length = summed_spans(lane.leading)
            if less(greatest, length):
                greatest = length
        return greatest

    def read(self, lane):
        """The pictures of the lane's leaves, by number."""
        return list(self.found_lane(lane).pictures(self.wide))

    def picture(self, lane, number):
        """The picture of one leaf of the lane."""
        return self.lane_with(lane, number).pictures(self.wide)[number]

    def leaf_at(self, lane, x):
        """The number of the leaf that is shown at a moment of the lane's own time, or None."""
        return self.lane_for(lane, x).number_at(x)

    def shown(self, lane, t):
        """The pair (number, picture) of the leaf that is shown at a moment of the film, or None."""
        found = self.lane_for(lane, t)
        x = led(found.leading, t)
        if x is None:
            return None
        number = found.number_at(x)
        return None if number is None else (number, found.pictures(self.wide)[number])


def picture_of(leaf, wide, ahead):
    """The picture of the leaf behind those of which the pictures ahead are known."""
    values = []
    for cell in range(wide):
        rule = leaf.rule(cell)
        found = [ahead[len(ahead) - back][needed_cell] for back, needed_cell in rule.needs()]
        values.append(rule.value(found))
    return tuple(values)


def plain_reading(leaves, wide):
    """The pictures of leaves that fit, by number."""
    pictures = []
    for leaf in leaves:
        pictures.append(picture_of(leaf, wide, pictures))
    return pictures


def shown_together(leaf, leaves):
    """Whether the leaf is shown at a moment at which one of the leaves is."""
    end = leaf.begin + leaf.span
    return any([other.begin < end and leaf.begin < other.begin + other.span for other in leaves])


def leaves_of(told, lane, wide):
    """The leaves that a lane's list tells; lane is its number."""
    made = []
    for number, thing in enumerate(told):
        try:
            leaf = leaf_of(thing)
        except NoLeaf:
            raise NoFilm(lane, number) from None
        if not fits(leaf, number, wide) or shown_together(leaf, made):
            raise NoFilm(lane, number)
        made.append(leaf)
    return made


def lane_of(told, lane, wide):
    """The Lane that the tuple tells; lane is its number."""
    if not isinstance(told, tuple) or len(told) != 3:
        raise NoFilm(lane)
    units, leaves, edits = told
    if not is_units(units) or not is_list(leaves, 0, MOST_LEAVES):
        raise NoFilm(lane)
    made = leaves_of(leaves, lane, wide)
    if not is_lane_edits(edits):
        raise NoFilm(lane)
    return Lane(units, made, list(edits))


def film_of(told):
    """The Film that the tuple tells."""
    if not isinstance(told, tuple) or len(told) != 3:
        raise NoFilm()
    seal, wide, lanes = told
    if not is_seal(seal) or not is_wide(wide) or not is_list(lanes, 1, MOST_LANES):
        raise NoFilm()
    return Film(seal, wide, [lane_of(lane, number, wide) for number, lane in enumerate(lanes)])
