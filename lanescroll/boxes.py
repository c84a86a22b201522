"""Boxes: rows of bytes with a START, a kind, a body and a sum, found again in any row."""

from lanescroll.errors import NoBytes, NoKind
from lanescroll.rows import BASE, STUFFING, check, number_at, refuse_no_bytes, refuse_no_place, stuffed, written
from lanescroll.wholes import is_bytes, is_whole

START = (0, 0, 1)
END = 255
LEAST_KIND = 1
GREATEST_KIND = 9
LONGEST_BODY = 60000
# How many bytes the length of the longest body has.
LONGEST_LENGTH = 3


class Growing:
    """A box that comes byte by byte, from the one behind its START on; at is the place of its START."""

    def __init__(self, at):
        self.at = at
        self.kind = None
        # What stands behind the kind, unstuffed.
        self.content = []
        # How many bytes 0 it ends with since the last 2 that was put.
        self.noughts = 0
        # Where in it the body begins and ends, once the body's length is known.
        self.first = None
        self.behind = None
        self.closed = False

    def grow(self, byte):
        """Takes a byte; whether the bytes so far may be a box's."""
        if self.kind is None:
            self.kind = byte
            return LEAST_KIND <= byte <= GREATEST_KIND
        if self.noughts == 2:
            self.noughts = 0
            return byte == STUFFING
        if self.behind is not None and len(self.content) == self.behind + 2:
            self.closed = byte == END and self.is_right()
            return self.closed
        self.content.append(byte)
        self.noughts = self.noughts + 1 if byte == 0 else 0
        return self.behind is not None or self.measure()

    def measure(self):
        """Reads the body's length, where all of it came; whether a body may have such a one."""
        if self.content[-1] >= BASE and len(self.content) < LONGEST_LENGTH:
            return True
        found = number_at(self.content, 0)
        if found is None or found[0] > LONGEST_BODY:
            return False
        self.first = found[1]
        self.behind = self.first + found[0]
        return True

    def body(self):
        """The body, once all of it came."""
        return self.content[self.first:self.behind]

    def is_right(self):
        """Whether the two bytes behind the body are its sum."""
        return self.content[self.behind:] == sum_of(self.kind, self.body())


class Feed:
    """A row of bytes that comes by parts."""

    def __init__(self):
        self.reached = 0
        self.noughts = 0
        self.growing = None

    def take(self, part):
        """The list of the tuples (at, kind, body) of the boxes whose last byte came with this part."""
        refuse_no_bytes(part)
        found = []
        for byte in part:
            if byte == 1 and self.noughts >= 2:
                # Whatever was growing is broken off: a START stands only at a box's begin.
                self.growing = Growing(self.reached - 2)
            elif self.growing is not None:
                if not self.growing.grow(byte):
                    self.growing = None
                elif self.growing.closed:
                    found.append((self.growing.at, self.growing.kind, self.growing.body()))
                    self.growing = None
            self.noughts = self.noughts + 1 if byte == 0 else 0
            self.reached += 1
        return found

    def taken(self):
        """How many bytes it took."""
        return self.reached


def sum_of(kind, body):
    """The two bytes for the check of a box's kind and body."""
    return list(divmod(check([kind] + body), 256))


def box(kind, body):
    """The row of bytes of a box."""
    if not is_whole(kind, LEAST_KIND, GREATEST_KIND):
        raise NoKind("this is no box's kind")
    if not is_bytes(body) or len(body) > LONGEST_BODY:
        raise NoBytes("this is no box's body")
    return list(START) + [kind] + stuffed(written(len(body)) + body + sum_of(kind, body)) + [END]


def standing_at(row, at):
    """What box_at tells, of what must be a row of bytes and a number from 0 on."""
    if row[at:at + 3] != list(START):
        return None
    growing = Growing(at)
    for place in range(at + 3, len(row)):
        if not growing.grow(row[place]):
            return None
        if growing.closed:
            return (growing.kind, growing.body(), place + 1)
    return None


def box_at(row, at=0):
    """The tuple (kind, body, end) of the box that stands in the row from a place on, None where none does."""
    refuse_no_place(row, at)
    return standing_at(row, at)


def starts_in(row):
    """The rising list of the places at which a START stands in what must be a row of bytes."""
    return [at for at in range(len(row) - 2) if row[at] == 0 and row[at + 1] == 0 and row[at + 2] == 1]


def boxes_in(row):
    """The rising list of the tuples (at, kind, body) of all boxes that stand in the row."""
    feed = Feed()
    return feed.take(row)
