"""The refusals: each stands straight under ScrollError, none under another one."""


class ScrollError(ValueError):
    """Any refusal."""


class NoFraction(ScrollError):
    """There is no such fraction."""


class NoMoment(ScrollError):
    """What should be a moment is none."""


class NoRule(ScrollError):
    """What should be a rule is none."""


class NoLeaf(ScrollError):
    """What should be a leaf is none."""


class NoCell(ScrollError):
    """There is no such cell."""


class NoEdits(ScrollError):
    """What should be edits is none."""


class NoFilm(ScrollError):
    """What should be a film is none; lane and leaf tell where, as far as they are at fault."""

    def __init__(self, lane=None, leaf=None):
        super().__init__("this is no film")
        self.lane = lane
        self.leaf = leaf


class NoLane(ScrollError):
    """There is no such lane."""


class NoNumber(ScrollError):
    """There is no such number."""


class NotKnown(ScrollError):
    """A cell's value is not known; way leads from the cell to a leaf that hasn't come."""

    def __init__(self, way=()):
        super().__init__("this cell is not known")
        # A list of its own: later changes of the list handed in must not reach it.
        self.way = list(way)


class NoBytes(ScrollError):
    """What should be a row of bytes is none."""


class NoPlace(ScrollError):
    """There is no such place in a row."""


class NoStuffing(ScrollError):
    """No row is stuffed so."""


class NoKind(ScrollError):
    """What should be a box's kind is none."""


class NoBody(ScrollError):
    """What should be told or read as a body is none."""


class NoMany(ScrollError):
    """What should be a count is none."""


class NoFile(ScrollError):
    """What should be a film's file is none."""


class NoSeal(ScrollError):
    """What should be a seal is none."""


class NoHead(ScrollError):
    """There is no head, or no single one."""


class NotWhole(ScrollError):
    """Some leaf is lost."""


class NoMatch(ScrollError):
    """Two films do not match."""


class TooMuch(ScrollError):
    """What would come of it is no film by its counts or sizes."""


class NoSpan(ScrollError):
    """What should be a span is none."""


class NoText(ScrollError):
    """What should be a text that can be read is none."""


class NoRow(ScrollError):
    """What is said to the desk is no row of it."""


class NoName(ScrollError):
    """What should be a name is none, or nothing fitting has it."""
