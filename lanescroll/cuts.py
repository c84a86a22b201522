"""Cutting, joining and editing films, and laying them beside one another."""

from lanescroll.bounds import MOST_LANES, is_list, refuse_no_lane
from lanescroll.chains import traced
from lanescroll.edits import NOUGHT, over, part, refuse_no_stretch, stretch_of, summed_spans
from lanescroll.errors import NoFilm, NoLane, NoMatch, TooMuch
from lanescroll.films import film_of
from lanescroll.ratios import fraction, minus, plus, times


def film_within(told):
    """The film that the tuple tells, where its counts and sizes are a film's."""
    try:
        return film_of(told)
    except NoFilm:
        raise TooMuch("this would be too much for a film") from None


def is_led_to(edits, leaf, units):
    """Whether the edits lead some moment to one at which the leaf is shown."""
    low = fraction(leaf.begin, units)
    high = fraction(leaf.begin + leaf.span, units)
    return any([stretch_of(edit, NOUGHT, low, high) is not None for edit in edits])


def renumbered(rule, number, places):
    """The rule of the leaf of a number as told, its backs by the new numbers."""
    told = rule.told()
    backs = [places[number] - places[number - back] for back, cell in rule.needs()]
    if told[0] == "moved":
        return ("moved", backs[0], told[2], told[3])
    if told[0] == "mixed":
        return ("mixed", backs[0], told[2], backs[1], told[4])
    return told


def rewoven(leaf, number, cells, places):
    """The leaf as told woven; cells tells, cell by cell, whether the rule is kept."""
    rules = []
    for cell, is_kept in enumerate(cells):
        rules.append(renumbered(leaf.rule(cell), number, places) if is_kept else ("plain", 0))
    return ("woven", leaf.begin, leaf.span, tuple(rules))


def cut_lane(lane, wide, low, high):
    """What a cut keeps of a lane."""
    edits = part(lane.leading, low, high)
    leaves = dict(enumerate(lane.leaves))
    shown = [number for number in leaves if is_led_to(edits, leaves[number], lane.scale)]
    pairs = traced(leaves, [(number, cell) for number in shown for cell in range(wide)])
    kept = sorted({number for number, cell in pairs})
    places = {number: place for place, number in enumerate(kept)}
    woven = []
    for number in kept:
        cells = [(number, cell) in pairs for cell in range(wide)]
        woven.append(rewoven(leaves[number], number, cells, places))
    return (lane.scale, woven, edits)


def cut(film, low, high):
    """The film from low on and below high, with just the leaves on which what it shows hangs."""
    refuse_no_stretch(low, high)
    return film_within((film.seal, film.wide, [cut_lane(lane, film.wide, low, high) for lane in film.lanes]))


def units_behind(edit, units):
    """The least number of units from 0 on that is behind each moment to which the edit leads."""
    span, start, rate = edit
    if start is None:
        return 0
    if rate == NOUGHT:
        return start[0] * units // start[1] + 1
    top, bottom = plus(start, times(rate, span))
    # Rounded up: the end itself is not led to, so it may be reached.
    return -(-top * units // bottom)


def units_for(lane):
    """The least number of units behind all leaves of the lane and all moments to which its edits lead."""
    ends = [leaf.begin + leaf.span for leaf in lane.leaves]
    return max([0] + ends + [units_behind(edit, lane.scale) for edit in lane.leading])


def later_leaf(told, units):
    """The leaf as told, its begin later by so many units."""
    kind, begin, span, held = told
    return (kind, begin + units, span, held)


def later_edit(edit, moment):
    """The edit, its start later by a moment."""
    span, start, rate = edit
    return (span, None if start is None else plus(start, moment), rate)


def joined_lane(one, other, length):
    """The lane of one film, which is so long, then the lane of the other."""
    units = units_for(one)
    later = fraction(units, one.scale)
    gap = minus(length, summed_spans(one.leading))
    blanks = [] if gap == NOUGHT else [(gap, None, NOUGHT)]
    leaves = [leaf.told() for leaf in one.leaves] + [later_leaf(leaf.told(), units) for leaf in other.leaves]
    return (one.scale, leaves, one.leading + blanks + [later_edit(edit, later) for edit in other.leading])


def is_match(one, other):
    """Whether two films have the same width, as many lanes, and these the same units."""
    scales = [lane.scale for lane in one.lanes]
    return one.wide == other.wide and scales == [lane.scale for lane in other.lanes]


def join(one, other):
    """The one film, then the other."""
    if not is_match(one, other):
        raise NoMatch("the films' widths, lanes or units differ")
    length = one.length()
    lanes = [joined_lane(first, second, length) for first, second in zip(one.lanes, other.lanes)]
    return film_within((one.seal, one.wide, lanes))


def edited(film, edits):
    """The film, its moments led by the edits."""
    lanes = []
    for units, leaves, leading in film.told()[2]:
        lanes.append((units, leaves, over(edits, leading)))
    return film_within((film.seal, film.wide, lanes))


def beside(one, other):
    """The lanes of the one film, then those of the other."""
    if one.wide != other.wide:
        raise NoMatch("the films' widths differ")
    return film_within((one.seal, one.wide, one.told()[2] + other.told()[2]))


def only(film, lanes):
    """The film with just these lanes, in this order."""
    if not is_list(lanes, 1, MOST_LANES):
        raise NoLane("this is no list of lanes that a film may have")
    for lane in lanes:
        refuse_no_lane(lane, len(film))
    told = film.told()[2]
    return film_of((film.seal, film.wide, [told[lane] for lane in lanes]))
