"""Seeking: of a film's file only those boxes are opened that are needed."""

from lanescroll.bodies import head_in, index_in, piece_in
from lanescroll.bounds import refuse_no_lane
from lanescroll.boxes import boxes_in, standing_at, starts_in
from lanescroll.chains import needs_of, reckoned
from lanescroll.edits import led, refuse_no_moment
from lanescroll.errors import NoHead
from lanescroll.gather import Gather
from lanescroll.leaves import fits, is_shown, leaf_of, unit_at
from lanescroll.pieces import stretch_units
from lanescroll.rows import refuse_no_bytes


class Seeker:
    """A seeker over a row of bytes."""

    def __init__(self, row):
        refuse_no_bytes(row)
        self.row = list(row)
        self.starts = starts_in(row)
        # The head by which it seeks, None from when on it gave up.
        self.leader = None
        # The index's rows, and a dict from pairs (lane, number) to the one of them that has that leaf.
        self.index_rows = []
        self.owners = {}
        # The leaves of the pieces that it opened, a dict by number for each lane, and the places of all it opened.
        self.leaves = []
        self.places = {}
        # What tells all when it gave up, made when it is asked for first.
        self.gather = None
        if self.starts:
            self.prepare()

    def prepare(self):
        """Opens the first box and the last one, and seeks by them where that can be done."""
        last = self.starts[-1]
        leader = head_at(self.row, 0)
        index = index_at(self.row, last)
        if leader is None or index is None or leader[0] != index[0]:
            return
        owners = owners_of(index[1])
        if owners is None or sorted(owners) != pairs_of(leader[2]):
            return
        self.leader = leader
        self.index_rows = index[1]
        self.owners = owners
        self.leaves = [{} for lane in leader[2]]
        self.places = {0: True, last: True}

    def shown(self, lane, t):
        """What is shown at a moment of the film: ("leaf", number, picture), ("blank",) or ("unknown",)."""
        if self.leader is not None:
            told = self.sought(lane, t)
            if told is not None:
                return told
            self.leader = None
        if self.gather is None:
            self.gather = gathered(self.row)
        return self.gather.shown(lane, t)

    def opened(self):
        """The rising list of the places of the boxes that it opened; where it gave up, of all STARTs."""
        return list(self.starts) if self.leader is None else sorted(self.places)

    def seeks(self):
        """Whether it seeks."""
        return self.leader is not None

    def sought(self, lane, t):
        """What shown tells while it seeks, None where it met a row of the index that is false."""
        lanes = self.leader[2]
        refuse_no_lane(lane, len(lanes))
        refuse_no_moment(t)
        units, count, edits = lanes[lane]
        x = led(edits, t)
        if x is None:
            return ("blank",)
        unit = unit_at(x, units)
        for row in self.index_rows:
            if row[0] == lane and row[3] <= unit < row[4]:
                if not self.open_row(row):
                    return None
                number = self.shown_number(row, unit)
                if number is not None:
                    return self.told_shown(lane, number)
        return ("blank",)

    def open_row(self, row):
        """Opens the box of a row of the index, if it hasn't yet; whether the row is true."""
        lane, first, many, low, high, place = row
        if first in self.leaves[lane]:
            return True
        told = true_leaves(self.row, self.leader, row)
        if told is None:
            return False
        for at, leaf in enumerate(told):
            self.leaves[lane][first + at] = leaf
        self.places[place] = True
        return True

    def shown_number(self, row, unit):
        """The least number of a leaf, of those of an opened row of the index, that is shown in a unit, or None."""
        lane, first, many, low, high, place = row
        for number in range(first, first + many):
            if is_shown(self.leaves[lane][number], unit):
                return number
        return None

    def told_shown(self, lane, number):
        """The tuple that tells of a leaf that is shown, None where it met a row of the index that is false."""
        wide = self.leader[1]
        pairs = {(number, cell): True for cell in range(wide)}
        waiting = list(pairs)
        # What a leaf hangs on is known only when its box is open, so the boxes are opened on the way.
        while waiting:
            pair = waiting.pop()
            if not self.open_row(self.owners[(lane, pair[0])]):
                return None
            for need in needs_of(self.leaves[lane], pair):
                if need not in pairs:
                    pairs[need] = True
                    waiting.append(need)
        values = reckoned(self.leaves[lane], pairs)
        return ("leaf", number, tuple([values[(number, cell)] for cell in range(wide)]))


def head_at(row, place):
    """The head whose box stands in the row from a place on, None where none does."""
    found = standing_at(row, place)
    return None if found is None else head_in(found[0], found[1])


def index_at(row, place):
    """The index whose box stands in the row from a place on, None where none does."""
    found = standing_at(row, place)
    return None if found is None else index_in(found[0], found[1])


def piece_at(row, place):
    """The piece whose box stands in the row from a place on, None where none does."""
    found = standing_at(row, place)
    return None if found is None else piece_in(found[0], found[1])


def owners_of(index_rows):
    """A dict from pairs (lane, number) to the row of an index that has that leaf, None where two rows have one."""
    owners = {}
    for row in index_rows:
        lane, first, many = row[:3]
        for number in range(first, first + many):
            if (lane, number) in owners:
                return None
            owners[(lane, number)] = row
    return owners


def pairs_of(lanes):
    """The rising list of the pairs (lane, number) of all leaves that a head's lanes have."""
    return [(lane, number) for lane, told in enumerate(lanes) for number in range(told[1])]


def true_leaves(row, leader, index_row):
    """The leaves of the piece of which a row of an index tells, None where that row is false."""
    lane, first, many, low, high, place = index_row
    seal, wide, lanes = leader
    told = piece_at(row, place)
    if told is None or told[:3] != (seal, lane, first) or len(told[3]) != many:
        return None
    if stretch_units(told[3]) != (low, high):
        return None
    leaves = [leaf_of(leaf) for leaf in told[3]]
    fitting = [fits(leaf, first + at, wide) for at, leaf in enumerate(leaves)]
    return leaves if all(fitting) else None


def gathered(row):
    """A Gather, of the seal of the first head in the row, that took the whole row."""
    boxes = boxes_in(row)
    for at, kind, body in boxes:
        head = head_in(kind, body)
        if head is not None:
            gather = Gather(head[0])
            gather.take_boxes(boxes)
            return gather
    raise NoHead("there is no head in the row")
