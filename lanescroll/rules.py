"""Rules: each tells the value of one cell of a picture."""

from lanescroll.errors import NoRule
from lanescroll.wholes import is_whole

GREATEST_VALUE = 255
GREATEST_BACK = 200
LAST_CELL = 15


class Rule:
    """The base of Plain, Moved and Mixed, not made by itself."""

    def told(self):
        """The tuple that tells the rule."""
        raise NotImplementedError("each kind of rule tells its own")

    def needs(self):
        """The pairs (back, cell) of which the rule needs the values."""
        raise NotImplementedError("each kind of rule has its own")

    def value(self, found):
        """The value that the rule tells, of the values of its needs."""
        raise NotImplementedError("each kind of rule reckons its own")


class Plain(Rule):
    """A value that hangs on no other."""

    def __init__(self, value):
        self.worth = value

    def __str__(self):
        return str(self.worth)

    def told(self):
        """The tuple that tells the rule."""
        return ("plain", self.worth)

    def needs(self):
        """No pairs: nothing is needed."""
        return []

    def value(self, found):
        """The value itself, of no values."""
        return self.worth


class Moved(Rule):
    """The value of a cell of a leaf ahead, plus a number, modulo 256."""

    def __init__(self, back, cell, add):
        self.back = back
        self.cell = cell
        self.added = add

    def __str__(self):
        return f"{self.back}:{self.cell}+{self.added}"

    def told(self):
        """The tuple that tells the rule."""
        return ("moved", self.back, self.cell, self.added)

    def needs(self):
        """The one pair (back, cell)."""
        return [(self.back, self.cell)]

    def value(self, found):
        """The value, of a list of one value."""
        return (found[0] + self.added) % 256


class Mixed(Rule):
    """Half of the sum of the values of two cells of leaves ahead, rounded down."""

    def __init__(self, back, cell, other_back, other_cell):
        self.back = back
        self.cell = cell
        self.other_back = other_back
        self.other_cell = other_cell

    def __str__(self):
        return f"{self.back}:{self.cell}/{self.other_back}:{self.other_cell}"

    def told(self):
        """The tuple that tells the rule."""
        return ("mixed", self.back, self.cell, self.other_back, self.other_cell)

    def needs(self):
        """The two pairs (back, cell), also where they are alike."""
        return [(self.back, self.cell), (self.other_back, self.other_cell)]

    def value(self, found):
        """The value, of a list of two values."""
        return (found[0] + found[1]) // 2


def is_value(thing):
    """Whether the thing is a value of a cell."""
    return is_whole(thing, 0, GREATEST_VALUE)


def is_back(thing):
    """Whether the thing tells how much less a leaf's number is."""
    return is_whole(thing, 1, GREATEST_BACK)


def is_cell(thing):
    """Whether the thing is a cell that some picture has."""
    return is_whole(thing, 0, LAST_CELL)


def is_rule(thing):
    """Whether the thing is a rule as told."""
    # Only a text is compared: things of other kinds may answer == in any way.
    if not isinstance(thing, tuple) or len(thing) < 2 or not isinstance(thing[0], str):
        return False
    kind = thing[0]
    if kind == "plain":
        return len(thing) == 2 and is_value(thing[1])
    if kind == "moved":
        return len(thing) == 4 and is_back(thing[1]) and is_cell(thing[2]) and is_value(thing[3])
    if kind == "mixed":
        return len(thing) == 5 and is_back(thing[1]) and is_cell(thing[2]) and is_back(thing[3]) and is_cell(thing[4])
    return False


def rule_of(told):
    """The Plain, Moved or Mixed that the tuple tells."""
    if not is_rule(told):
        raise NoRule("this is no rule")
    kind, *numbers = told
    if kind == "plain":
        return Plain(*numbers)
    if kind == "moved":
        return Moved(*numbers)
    return Mixed(*numbers)
