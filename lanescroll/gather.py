"""Gathering: what comes of a film, by pieces, in any order, twice, torn or not at all."""

from lanescroll.bodies import head_in, piece_in
from lanescroll.bounds import is_seal, refuse_no_lane
from lanescroll.boxes import boxes_in
from lanescroll.chains import known_pictures, table
from lanescroll.edits import led, refuse_no_moment
from lanescroll.errors import NoHead, NoNumber, NoSeal, NotWhole
from lanescroll.films import film_of
from lanescroll.leaves import fits, is_shown, leaf_of, refuse_no_cell, unit_at
from lanescroll.wholes import is_whole


class GatheredLane:
    """A lane as a head tells it, size leaves long, with the leaves that came of it."""

    def __init__(self, told, wide, choices):
        self.scale, self.size, self.leading = told
        self.wide = wide
        self.leaves = {}
        self.clashing = []
        for number in range(self.size):
            self.sort_out(number, choices[number])
        # The pictures, made when they are asked for first.
        self.reading = None

    def sort_out(self, number, leaves):
        """Takes, of all leaves that were told for a number, unlike ones, those that may have it."""
        fitting = [leaf for leaf in leaves if fits(leaf, number, self.wide)]
        if len(fitting) == 1:
            self.leaves[number] = fitting[0]
        elif fitting:
            self.clashing.append(number)

    def missing(self):
        """The rising list of the numbers of the leaves that haven't come."""
        return [number for number in range(self.size) if number not in self.leaves]

    def known_so_far(self):
        """A dict from the numbers of the leaves that came to their pictures, as far as these are known."""
        if self.reading is None:
            self.reading = known_pictures(self.leaves, self.wide)
        return self.reading

    def told_with(self, leaves):
        """The tuple that tells a film's lane of the same units and edits with these leaves as told."""
        return (self.scale, leaves, list(self.leading))

    def kept(self):
        """The leaves as told that came."""
        return [leaf.told() for leaf in self.leaves.values()]

    def saved(self):
        """Full leaves as told, for all that came of whose picture all is known."""
        found = []
        for number, leaf in self.leaves.items():
            picture = self.known_so_far()[number]
            if None not in picture:
                found.append(("full", leaf.begin, leaf.span, picture))
        return found

    def shown_at(self, x):
        """What is shown at a moment of the lane's own time."""
        unit = unit_at(x, self.scale)
        for number, leaf in self.leaves.items():
            if is_shown(leaf, unit):
                return ("leaf", number, self.known_so_far()[number])
        return ("unknown",) if self.missing() else ("blank",)


class Gather:
    """Gathers what comes of the film of a seal."""

    def __init__(self, seal):
        if not is_seal(seal):
            raise NoSeal("this is no seal")
        self.seal = seal
        # The first head that came, and whether one came that is unlike it.
        self.leader = None
        self.unlike = False
        # From pairs (lane, number) to dicts of all leaves told for them, from the leaf as told to the Leaf: which
        # of them come is known only when the head has come.
        self.choices = {}
        # The lanes that were asked for since something came for them, by their numbers.
        self.lanes = {}

    def take(self, row):
        """Takes what boxes in the row have of the film; the rising list of the places of these boxes."""
        return self.take_boxes(boxes_in(row))

    def take_boxes(self, boxes):
        """Takes boxes, told as boxes_in tells them, as take does."""
        places = []
        for at, kind, body in boxes:
            if self.take_box(kind, body):
                places.append(at)
        return places

    def take_box(self, kind, body):
        """Takes a box; whether it is one of the film."""
        told = head_in(kind, body)
        if told is not None and told[0] == self.seal:
            self.take_head(told)
            return True
        told = piece_in(kind, body)
        if told is not None and told[0] == self.seal:
            self.take_piece(told)
            return True
        return False

    def take_head(self, told):
        """Takes a head of the film."""
        if self.leader is None:
            self.leader = told
        elif told != self.leader:
            self.unlike = True

    def take_piece(self, told):
        """Takes a piece of the film."""
        seal, lane, first, leaves = told
        for place, leaf in enumerate(leaves):
            choices = self.choices.setdefault((lane, first + place), {})
            if leaf not in choices:
                choices[leaf] = leaf_of(leaf)
        self.lanes.pop(lane, None)

    def head(self):
        """The head that came, None where none did, or unlike ones did."""
        if self.leader is None or self.unlike:
            return None
        seal, wide, lanes = self.leader
        return (seal, wide, [(units, count, list(edits)) for units, count, edits in lanes])

    def found_head(self):
        """The head, where there is one."""
        if self.leader is None or self.unlike:
            raise NoHead("there is no head, or no single one")
        return self.leader

    def found_lane(self, lane):
        """The GatheredLane of this number."""
        seal, wide, lanes = self.found_head()
        refuse_no_lane(lane, len(lanes))
        if lane not in self.lanes:
            count = lanes[lane][1]
            choices = [list(self.choices.get((lane, number), {}).values()) for number in range(count)]
            self.lanes[lane] = GatheredLane(lanes[lane], wide, choices)
        return self.lanes[lane]

    def all_lanes(self):
        """The GatheredLanes of all numbers."""
        return [self.found_lane(lane) for lane in range(len(self.found_head()[2]))]

    def lane_with(self, lane, number):
        """The GatheredLane of this number, which must have a leaf of that one, come or not."""
        found = self.found_lane(lane)
        if not is_whole(number, 0, found.size - 1):
            raise NoNumber("the lane has no such leaf")
        return found

    def lane_with_cell(self, lane, number, cell):
        """The GatheredLane of this number, which must have such a leaf, and its picture such a cell."""
        found = self.lane_with(lane, number)
        refuse_no_cell(cell, found.wide)
        return found

    def came(self, lane):
        """The rising list of the numbers of the leaves that came."""
        return list(self.found_lane(lane).leaves)

    def clashes(self, lane):
        """The rising list of the numbers as which unlike leaves came."""
        return list(self.found_lane(lane).clashing)

    def lost(self, lane):
        """The rising list of the numbers of the leaves that haven't come."""
        return self.found_lane(lane).missing()

    def value(self, lane, number, cell):
        """The value of a cell of a leaf, None where it isn't known."""
        pictures = self.lane_with_cell(lane, number, cell).known_so_far()
        return pictures[number][cell] if number in pictures else None

    def table(self, lane, number, cell):
        """The rising list of the tuples (number, cell, value) of all cells on which the cell hangs."""
        return table(self.lane_with_cell(lane, number, cell).leaves, number, cell)

    def picture(self, lane, number):
        """The picture of a leaf, None in the place of each cell that isn't known; None where the leaf hasn't come."""
        return self.lane_with(lane, number).known_so_far().get(number)

    def shown(self, lane, t):
        """What is shown at a moment of the film: ("leaf", number, picture), ("blank",) or ("unknown",)."""
        found = self.found_lane(lane)
        refuse_no_moment(t)
        x = led(found.leading, t)
        return ("blank",) if x is None else found.shown_at(x)

    def whole(self):
        """Whether nothing of any lane is lost."""
        return not any([lane.missing() for lane in self.all_lanes()])

    def film(self):
        """The film of the head and the leaves that came."""
        if not self.whole():
            raise NotWhole("some leaf is lost")
        return film_of(self.told_film([lane.kept() for lane in self.all_lanes()]))

    def salvage(self):
        """The film of Full leaves, for all that came of whose picture all is known."""
        return film_of(self.told_film([lane.saved() for lane in self.all_lanes()]))

    def told_film(self, rows):
        """The tuple that tells a film by the head, with these leaves as told, a list for each lane."""
        seal, wide, lanes = self.found_head()
        return (seal, wide, [lane.told_with(leaves) for lane, leaves in zip(self.all_lanes(), rows)])

    def twin(self):
        """A Gather that stands alike."""
        other = Gather(self.seal)
        other.leader = self.leader
        other.unlike = self.unlike
        other.choices = {pair: {leaf: leaves[leaf] for leaf in leaves} for pair, leaves in self.choices.items()}
        return other
