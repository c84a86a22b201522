"""Playing: the moments at which what is shown changes."""

from lanescroll.edits import NOUGHT, refuse_no_moment, refuse_no_stretch
from lanescroll.errors import NoSpan
from lanescroll.ratios import fraction, is_moment, less, minus, plus, shared, times


class Player:
    """A film that is played, at a moment."""

    def __init__(self, film):
        self.at = NOUGHT
        self.scroll = film
        # All changes, lane by lane, made when they are asked for first: a film never changes.
        self.turns = None

    def play(self, span):
        """The list of the tuples (moment, lane, number) of all changes within a span, which goes by."""
        if not is_moment(span) or span == NOUGHT:
            raise NoSpan("this is no span")
        if self.turns is None:
            self.turns = [all_changes(lane) for lane in self.scroll.lanes]
        end = plus(self.at, span)
        found = []
        for lane, turns in enumerate(self.turns):
            told = [(moment, lane, number) for moment, number in between(turns, self.at, end)]
            found = put_together(found, told)
        self.at = end
        return found

    def seek(self, t):
        """Goes to a moment."""
        refuse_no_moment(t)
        self.at = t

    def here(self):
        """The list, lane by lane, of what is shown."""
        return [self.scroll.shown(lane, self.at) for lane in range(len(self.scroll))]


def borders_of(lane):
    """The rising list of the pairs (x, number) of a lane's own time: the leaf that is shown from x on, or None."""
    numbers = {leaf.begin + leaf.span: None for leaf in lane.leaves}
    # Behind the ends: where a leaf begins as another one ends, it is the one that is shown.
    for number, leaf in enumerate(lane.leaves):
        numbers[leaf.begin] = number
    return [(fraction(unit, lane.scale), numbers[unit]) for unit in sorted(numbers)]


def steps_within(edit, begin, borders):
    """The rising list of the pairs (moment, number) of the borders that an edit, in force from begin on, passes."""
    span, start, rate = edit
    # A blank's rate is nought, too.
    if rate == NOUGHT:
        return []
    end = plus(start, times(rate, span))
    passed = [pair for pair in borders if less(start, pair[0]) and less(pair[0], end)]
    return [(plus(begin, shared(minus(x, start), rate)), number) for x, number in passed]


def steps_of(lane):
    """The rising list of pairs (moment, number): what is shown from a moment on, till the next one."""
    borders = borders_of(lane)
    found = []
    begin = NOUGHT
    for edit in lane.leading:
        span, start, rate = edit
        found.append((begin, None if start is None else lane.number_at(start)))
        found.extend(steps_within(edit, begin, borders))
        begin = plus(begin, span)
    found.append((begin, None))
    return found


def all_changes(lane):
    """The rising list of the pairs (moment, number) of all changes of a lane."""
    found = []
    last = None
    for moment, number in steps_of(lane):
        if number != last:
            found.append((moment, number))
        last = number
    return found


def count_ahead(turns, moment):
    """How many of the rising turns are ahead of a moment."""
    low = 0
    high = len(turns)
    while low < high:
        middle = (low + high) // 2
        if less(turns[middle][0], moment):
            low = middle + 1
        else:
            high = middle
    return low


def between(turns, low, high):
    """The list of those of the rising turns that are from low on and below high."""
    return turns[count_ahead(turns, low):count_ahead(turns, high)]


def put_together(one, other):
    """The rising list of the turns of two such lists, of like moments one's first."""
    found = []
    at = 0
    for turn in one:
        while at < len(other) and less(other[at][0], turn[0]):
            found.append(other[at])
            at += 1
        found.append(turn)
    return found + other[at:]


def changes(film, lane, low, high):
    """The rising list of the pairs (moment, number) of the changes of a lane from low on and below high."""
    found = film.found_lane(lane)
    refuse_no_stretch(low, high)
    return between(all_changes(found), low, high)
