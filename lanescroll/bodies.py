"""Bodies of heads, pieces and indexes: rows of numbers, each as written."""

from lanescroll.bounds import MOST_LANES, MOST_LEAVES, is_lane_edits, is_list, is_seal, is_units, is_wide
from lanescroll.errors import NoBody
from lanescroll.leaves import GREATEST_TIME, is_leaf
from lanescroll.rows import number_at, written
from lanescroll.wholes import is_bytes, is_whole

HEAD = 1
PIECE = 2
INDEX = 3

LAST_LANE = 7
LAST_FIRST = 199
MOST_ROWS = 1600
GREATEST_PLACE = 10 ** 6

LEAF_KINDS = ("full", "still", "woven")
RULE_KINDS = ("plain", "moved", "mixed")
# How many numbers stand in a rule of each kind behind the one for its kind.
RULE_SIZES = (1, 3, 4)


class Numbers:
    """The numbers of a body, taken one behind the other."""

    def __init__(self, body):
        self.row = numbers_in(body)
        self.next_at = 0

    def one(self):
        """The next number."""
        if self.next_at == len(self.row):
            raise NoBody("the body ends too early")
        self.next_at += 1
        return self.row[self.next_at - 1]

    def some(self, many):
        """The tuple of the next so many numbers."""
        return tuple([self.one() for place in range(many)])

    def choice(self, many):
        """The next number, which must be below many."""
        number = self.one()
        if number >= many:
            raise NoBody("there is no such kind")
        return number

    def is_over(self):
        """Whether no number is left."""
        return self.next_at == len(self.row)


def numbers_in(body):
    """The list of the numbers of which a body is made."""
    if not is_bytes(body):
        raise NoBody("this is no row of bytes")
    found = []
    at = 0
    while at < len(body):
        pair = number_at(body, at)
        if pair is None:
            raise NoBody("what stands there is no number")
        found.append(pair[0])
        at = pair[1]
    return found


def body_of(numbers):
    """The bytes of a list of numbers."""
    body = []
    for number in numbers:
        body.extend(written(number))
    return body


def edit_numbers(edit):
    """The numbers of an edit."""
    span, start, rate = edit
    if start is None:
        return [*span, 0]
    return [*span, 1, *start, *rate]


def edits_numbers(edits):
    """The numbers of edits."""
    found = [len(edits)]
    for edit in edits:
        found.extend(edit_numbers(edit))
    return found


def leaf_numbers(told):
    """The numbers of a leaf as told."""
    kind, begin, span, held = told
    found = [LEAF_KINDS.index(kind), begin, span]
    if kind == "still":
        return found + [held]
    found.append(len(held))
    if kind == "full":
        return found + list(held)
    for rule in held:
        found.append(RULE_KINDS.index(rule[0]))
        found.extend(rule[1:])
    return found


def taken_edit(numbers):
    """The edit of the next numbers."""
    span = numbers.some(2)
    if numbers.choice(2) == 0:
        return (span, None, (0, 1))
    start = numbers.some(2)
    return (span, start, numbers.some(2))


def taken_edits(numbers):
    """The edits of the next numbers."""
    many = numbers.one()
    return [taken_edit(numbers) for place in range(many)]


def taken_rule(numbers):
    """The rule, as told, of the next numbers."""
    kind = numbers.choice(3)
    return (RULE_KINDS[kind],) + numbers.some(RULE_SIZES[kind])


def taken_leaf(numbers):
    """The leaf, as told, of the next numbers."""
    kind = LEAF_KINDS[numbers.choice(3)]
    begin, span = numbers.some(2)
    many = numbers.one()
    if kind == "still":
        return (kind, begin, span, many)
    if kind == "full":
        return (kind, begin, span, numbers.some(many))
    return (kind, begin, span, tuple([taken_rule(numbers) for place in range(many)]))


def taken_head_lane(numbers):
    """The lane of a head of the next numbers."""
    units, count = numbers.some(2)
    return (units, count, taken_edits(numbers))


def is_lane_number(thing):
    """Whether the thing is a number that a film's lane may have."""
    return is_whole(thing, 0, LAST_LANE)


def is_first(thing):
    """Whether the thing is a number that a piece's first leaf may have."""
    return is_whole(thing, 0, LAST_FIRST)


def is_head_lane(thing):
    """Whether the thing is a lane as a head tells it."""
    if not isinstance(thing, tuple) or len(thing) != 3:
        return False
    units, count, edits = thing
    return is_units(units) and is_whole(count, 0, MOST_LEAVES) and is_lane_edits(edits)


def is_head(thing):
    """Whether the thing is a head."""
    if not isinstance(thing, tuple) or len(thing) != 3:
        return False
    seal, wide, lanes = thing
    if not is_seal(seal) or not is_wide(wide) or not is_list(lanes, 1, MOST_LANES):
        return False
    return all([is_head_lane(lane) for lane in lanes])


def is_piece(thing):
    """Whether the thing is a piece."""
    if not isinstance(thing, tuple) or len(thing) != 4:
        return False
    seal, lane, first, leaves = thing
    if not is_seal(seal) or not is_lane_number(lane) or not is_first(first):
        return False
    return is_list(leaves, 1, MOST_LEAVES) and all([is_leaf(leaf) for leaf in leaves])


def is_index_row(thing):
    """Whether the thing is a row of an index."""
    if not isinstance(thing, tuple) or len(thing) != 6:
        return False
    lane, first, many, low, high, place = thing
    if not is_lane_number(lane) or not is_first(first) or not is_whole(many, 1, MOST_LEAVES):
        return False
    if not is_whole(low, 0, GREATEST_TIME) or not is_whole(high, 1, 2 * GREATEST_TIME):
        return False
    return is_whole(place, 0, GREATEST_PLACE)


def is_index(thing):
    """Whether the thing is an index."""
    if not isinstance(thing, tuple) or len(thing) != 2:
        return False
    seal, rows = thing
    return is_seal(seal) and is_list(rows, 0, MOST_ROWS) and all([is_index_row(row) for row in rows])


def head_body(head):
    """The bytes of a head's body."""
    if not is_head(head):
        raise NoBody("this is no head")
    seal, wide, lanes = head
    numbers = [seal, wide, len(lanes)]
    for units, count, edits in lanes:
        numbers.extend([units, count] + edits_numbers(edits))
    return body_of(numbers)


def piece_body(piece):
    """The bytes of a piece's body."""
    if not is_piece(piece):
        raise NoBody("this is no piece")
    seal, lane, first, leaves = piece
    numbers = [seal, lane, first, len(leaves)]
    for leaf in leaves:
        numbers.extend(leaf_numbers(leaf))
    return body_of(numbers)


def index_body(index):
    """The bytes of an index's body."""
    if not is_index(index):
        raise NoBody("this is no index")
    seal, rows = index
    numbers = [seal, len(rows)]
    for row in rows:
        numbers.extend(row)
    return body_of(numbers)


def read_head(body):
    """The head that has this body."""
    numbers = Numbers(body)
    seal, wide, many = numbers.some(3)
    head = (seal, wide, [taken_head_lane(numbers) for place in range(many)])
    if not numbers.is_over() or not is_head(head):
        raise NoBody("this is no head's body")
    return head


def read_piece(body):
    """The piece that has this body."""
    numbers = Numbers(body)
    seal, lane, first, many = numbers.some(4)
    piece = (seal, lane, first, [taken_leaf(numbers) for place in range(many)])
    if not numbers.is_over() or not is_piece(piece):
        raise NoBody("this is no piece's body")
    return piece


def read_index(body):
    """The index that has this body."""
    numbers = Numbers(body)
    seal, many = numbers.some(2)
    index = (seal, [numbers.some(6) for place in range(many)])
    if not numbers.is_over() or not is_index(index):
        raise NoBody("this is no index's body")
    return index


def head_in(kind, body):
    """The head that a box of this kind and body has, None where it has none."""
    if kind != HEAD:
        return None
    try:
        return read_head(body)
    except NoBody:
        return None


def piece_in(kind, body):
    """The piece that a box of this kind and body has, None where it has none."""
    if kind != PIECE:
        return None
    try:
        return read_piece(body)
    except NoBody:
        return None


def index_in(kind, body):
    """The index that a box of this kind and body has, None where it has none."""
    if kind != INDEX:
        return None
    try:
        return read_index(body)
    except NoBody:
        return None
