"""A second, plain gather and seeker, told straight from points 35 to 42, to hold the program's against."""

from fractions import Fraction

from lanescroll.bodies import read_head, read_index, read_piece
from lanescroll.boxes import box_at, boxes_in
from lanescroll.errors import NoBody
from tests.oracle import hung_on, led, rule_needs, rule_value, rules_of, worth

READERS = {1: read_head, 2: read_piece, 3: read_index}


def content(kind, body):
    """What a box has as a head, a piece or an index, or None."""
    try:
        return READERS[kind](body) if kind in READERS else None
    except NoBody:
        return None


def fits_by_hand(leaf, number, wide):
    """Whether a leaf as told may have a number."""
    if leaf[0] == "still":
        return leaf[3] <= number
    rules = rules_of(leaf, wide)
    needs = [need for rule in rules for need in rule_needs(rule)]
    return len(rules) == wide and all(back <= number and cell < wide for back, cell in needs)


def shown_in(leaf, units, x):
    """Whether a leaf as told is shown at a moment of its lane's time."""
    return Fraction(leaf[1], units) <= x < Fraction(leaf[1] + leaf[2], units)


class PlainGather:
    """Keeps all that came, and looks through all of it for each question."""

    def __init__(self, seal):
        self.seal, self.heads, self.pieces = seal, [], []

    def take(self, row):
        places = []
        for at, kind, body in boxes_in(row):
            told = content(kind, body)
            if told is not None and kind in (1, 2) and told[0] == self.seal:
                (self.heads if kind == 1 else self.pieces).append(told)
                places.append(at)
        return places

    def head(self):
        return self.heads[0] if self.heads and all(head == self.heads[0] for head in self.heads) else None

    def choices(self, lane, number):
        """The leaves, unlike ones, that come as a number."""
        found = []
        for seal, piece_lane, first, leaves in self.pieces:
            if piece_lane == lane and first <= number < first + len(leaves):
                leaf = leaves[number - first]
                if fits_by_hand(leaf, number, self.head()[1]) and leaf not in found:
                    found.append(leaf)
        return found

    def numbers(self, lane):
        return range(self.head()[2][lane][1])

    def leaves(self, lane):
        """The dict of the leaves as told that came."""
        found = {number: self.choices(lane, number) for number in self.numbers(lane)}
        return {number: leaves[0] for number, leaves in found.items() if len(leaves) == 1}

    def came(self, lane):
        return sorted(self.leaves(lane))

    def clashes(self, lane):
        return [number for number in self.numbers(lane) if len(self.choices(lane, number)) > 1]

    def lost(self, lane):
        return [number for number in self.numbers(lane) if number not in self.leaves(lane)]

    def rows(self, lane, number, cell):
        """The table of a cell, None where it isn't known."""
        leaves, wide, values = self.leaves(lane), self.head()[1], {}
        hung = hung_on(leaves, wide, number, cell)
        if not all(pair[0] in leaves for pair in hung):
            return None
        for pair in sorted(hung):
            rule = rules_of(leaves[pair[0]], wide)[pair[1]]
            values[pair] = rule_value(rule, [values[(pair[0] - back, need)] for back, need in rule_needs(rule)])
        return [pair + (values[pair],) for pair in sorted(hung)]

    def value(self, lane, number, cell):
        rows = self.rows(lane, number, cell)
        return None if rows is None else rows[-1][2]

    def picture(self, lane, number):
        if number not in self.leaves(lane):
            return None
        return tuple([self.value(lane, number, cell) for cell in range(self.head()[1])])

    def shown(self, lane, t):
        units, count, edits = self.head()[2][lane]
        x = led(edits, worth(t))
        if x is None:
            return ("blank",)
        for number, leaf in sorted(self.leaves(lane).items()):
            if shown_in(leaf, units, x):
                return ("leaf", number, self.picture(lane, number))
        return ("unknown",) if self.lost(lane) else ("blank",)

    def whole(self):
        return not any(self.lost(lane) for lane in range(len(self.head()[2])))

    def told(self):
        """The film as told of the head and the leaves that came."""
        seal, wide, lanes = self.head()
        return (seal, wide, [(units, [self.leaves(lane)[number] for number in self.came(lane)], edits)
                             for lane, (units, count, edits) in enumerate(lanes)])

    def saved(self):
        """What salvage would make, as told."""
        seal, wide, lanes = self.head()
        rows = []
        for lane, (units, count, edits) in enumerate(lanes):
            leaves = []
            for number, leaf in sorted(self.leaves(lane).items()):
                picture = self.picture(lane, number)
                if None not in picture:
                    leaves.append(("full", leaf[1], leaf[2], picture))
            rows.append((units, leaves, edits))
        return (seal, wide, rows)


class FalseRow(Exception):
    """A row of an index is false."""


class PlainSeeker:
    """Opens what the document tells, box by box."""

    def __init__(self, row):
        self.row = row
        self.starts = [at for at in range(len(row)) if row[at:at + 3] == [0, 0, 1]]
        self.places = set(self.starts[-1:]) | {0}
        self.seeking = bool(self.starts) and self.may_seek()

    def at(self, place, kind):
        found = box_at(self.row, place) if place <= len(self.row) else None
        return content(kind, found[1]) if found is not None and found[0] == kind else None

    def may_seek(self):
        self.told_head, self.index = self.at(0, 1), self.at(self.starts[-1], 3)
        if self.told_head is None or self.index is None or self.told_head[0] != self.index[0]:
            return False
        found = [(row[0], number) for row in self.index[1] for number in range(row[1], row[1] + row[2])]
        right = [(lane, number) for lane, told in enumerate(self.told_head[2]) for number in range(told[1])]
        return sorted(found) == right

    def leaves_of(self, row):
        """Opens the box of a row of the index: the dict of its leaves by number."""
        lane, first, many, low, high, place = row
        seal, wide, lanes = self.told_head
        piece = self.at(place, 2)
        if piece is None or piece[:3] != (seal, lane, first) or len(piece[3]) != many:
            raise FalseRow
        leaves = piece[3]
        if low != min(leaf[1] for leaf in leaves) or high != max(leaf[1] + leaf[2] for leaf in leaves):
            raise FalseRow
        if not all(fits_by_hand(leaf, first + at, wide) for at, leaf in enumerate(leaves)):
            raise FalseRow
        self.places.add(place)
        return {first + at: leaf for at, leaf in enumerate(leaves)}

    def sought(self, lane, t):
        units, count, edits = self.told_head[2][lane]
        x = led(edits, worth(t))
        if x is None:
            return ("blank",)
        for row in self.index[1]:
            if row[0] == lane and Fraction(row[3], units) <= x < Fraction(row[4], units):
                leaves = self.leaves_of(row)
                shown = [number for number in sorted(leaves) if shown_in(leaves[number], units, x)]
                if shown:
                    return ("leaf", shown[0], self.picture(lane, shown[0]))
        return ("blank",)

    def leaf(self, lane, number):
        for row in self.index[1]:
            if row[0] == lane and row[1] <= number < row[1] + row[2]:
                return self.leaves_of(row)[number]

    def picture(self, lane, number):
        """The picture, by a plain walk over all that it hangs on."""
        wide, values = self.told_head[1], {}

        def value(number, cell):
            if (number, cell) not in values:
                rule = rules_of(self.leaf(lane, number), wide)[cell]
                found = [value(number - back, need) for back, need in rule_needs(rule)]
                values[(number, cell)] = rule_value(rule, found)
            return values[(number, cell)]

        return tuple([value(number, cell) for cell in range(wide)])

    def shown(self, lane, t):
        """What is shown, None where NoHead is due."""
        if self.seeking:
            try:
                return self.sought(lane, t)
            except FalseRow:
                self.seeking = False
        for at, kind, body in boxes_in(self.row):
            if kind == 1 and content(kind, body) is not None:
                gather = PlainGather(content(kind, body)[0])
                gather.take(self.row)
                return None if gather.head() is None else gather.shown(lane, t)
        return None

    def opened(self):
        return sorted(self.places) if self.seeking else self.starts
