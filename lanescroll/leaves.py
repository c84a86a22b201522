"""Leaves: pictures of a few cells, each shown for a stretch of its lane's time."""

from lanescroll.errors import NoCell, NoLeaf
from lanescroll.rules import Moved, Plain, is_back, is_rule, is_value, rule_of
from lanescroll.wholes import is_whole

GREATEST_TIME = 10 ** 9
MOST_CELLS = 16


class Leaf:
    """The base of Full, Still and Woven, not made by itself."""

    def __init__(self, begin, span):
        self.begin = begin
        self.span = span

    def told(self):
        """The tuple that tells the leaf."""
        raise NotImplementedError("each kind of leaf tells its own")

    def cells(self):
        """How many cells the leaf tells, None for a Still."""
        raise NotImplementedError("each kind of leaf has its own")

    def rule(self, cell):
        """The Rule of this cell."""
        raise NotImplementedError("each kind of leaf has its own")


class Full(Leaf):
    """A leaf that tells each cell's value."""

    def __init__(self, begin, span, values):
        super().__init__(begin, span)
        self.worths = tuple(values)

    def told(self):
        """The tuple that tells the leaf."""
        return ("full", self.begin, self.span, self.worths)

    def cells(self):
        """How many cells the leaf tells."""
        return len(self.worths)

    def rule(self, cell):
        """The Plain of this cell's value."""
        refuse_no_cell(cell, len(self.worths))
        return Plain(self.worths[cell])


class Still(Leaf):
    """A leaf that has in each cell what a leaf ahead has there."""

    def __init__(self, begin, span, back):
        super().__init__(begin, span)
        self.back = back

    def told(self):
        """The tuple that tells the leaf."""
        return ("still", self.begin, self.span, self.back)

    def cells(self):
        """None: it has as many cells as the leaf ahead."""
        return None

    def rule(self, cell):
        """The Moved that takes the same cell of the leaf ahead."""
        refuse_no_cell(cell, MOST_CELLS)
        return Moved(self.back, cell, 0)


class Woven(Leaf):
    """A leaf that tells each cell's rule."""

    def __init__(self, begin, span, rules):
        super().__init__(begin, span)
        self.rules = [rule_of(told) for told in rules]

    def told(self):
        """The tuple that tells the leaf."""
        return ("woven", self.begin, self.span, tuple([rule.told() for rule in self.rules]))

    def cells(self):
        """How many cells the leaf tells."""
        return len(self.rules)

    def rule(self, cell):
        """The Rule of this cell."""
        refuse_no_cell(cell, len(self.rules))
        return self.rules[cell]


def refuse_no_cell(cell, many):
    """Refuses what is none of so many cells."""
    if not is_whole(cell, 0, many - 1):
        raise NoCell("there is no such cell")


def is_row_of_cells(thing):
    """Whether the thing is a tuple of as many things as a picture may have cells."""
    return isinstance(thing, tuple) and 1 <= len(thing) <= MOST_CELLS


def is_leaf(thing):
    """Whether the thing is a leaf as told."""
    if not isinstance(thing, tuple) or len(thing) != 4 or not isinstance(thing[0], str):
        return False
    kind, begin, span, held = thing
    if not is_whole(begin, 0, GREATEST_TIME) or not is_whole(span, 1, GREATEST_TIME):
        return False
    if kind == "full":
        return is_row_of_cells(held) and all([is_value(value) for value in held])
    if kind == "still":
        return is_back(held)
    if kind == "woven":
        return is_row_of_cells(held) and all([is_rule(rule) for rule in held])
    return False


def leaf_of(told):
    """The Full, Still or Woven that the tuple tells."""
    if not is_leaf(told):
        raise NoLeaf("this is no leaf")
    kind, begin, span, held = told
    if kind == "full":
        return Full(begin, span, held)
    if kind == "still":
        return Still(begin, span, held)
    return Woven(begin, span, held)


def unit_at(x, units):
    """The whole unit in which a moment of a lane's own time lies, of so many units to the second."""
    return x[0] * units // x[1]


def is_shown(leaf, unit):
    """Whether the leaf is shown within a whole unit: begins and ends are whole, so it is all the way or nowhere."""
    return leaf.begin <= unit < leaf.begin + leaf.span


def fits(leaf, number, wide):
    """Whether the Leaf may have this number in a lane whose pictures have so many cells."""
    many = leaf.cells()
    if many is None:
        return leaf.back <= number
    if many != wide:
        return False
    for cell in range(many):
        for back, needed_cell in leaf.rule(cell).needs():
            if back > number or needed_cell >= wide:
                return False
    return True
