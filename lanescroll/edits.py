"""Edits: lists of tuples (span, start, rate) that lead a film's moments to a lane's."""

from lanescroll.errors import NoEdits, NoMoment
from lanescroll.ratios import is_fraction, is_moment, less, minus, plus, shared, times

NOUGHT = (0, 1)
HALF = (1, 2)


def is_edit(thing):
    """Whether the thing is one edit."""
    if not isinstance(thing, tuple) or len(thing) != 3:
        return False
    span, start, rate = thing
    if not is_moment(span) or span == NOUGHT:
        return False
    if start is None:
        # Asked ahead of ==, by which the pair of False and True would be nought, too.
        return is_fraction(rate) and rate == NOUGHT
    return is_moment(start) and is_moment(rate)


def is_edits(thing):
    """Whether the thing is a list of edits."""
    if not isinstance(thing, list):
        return False
    for edit in thing:
        if not is_edit(edit):
            return False
    return True


def refuse_no_edits(*lists):
    """Refuses what is no edits."""
    for edits in lists:
        if not is_edits(edits):
            raise NoEdits("these are no edits")


def refuse_no_moment(thing):
    """Refuses what is no moment."""
    if not is_moment(thing):
        raise NoMoment("this is no moment")


def refuse_no_stretch(low, high):
    """Refuses what are no two moments, the second above the first."""
    refuse_no_moment(low)
    refuse_no_moment(high)
    if not less(low, high):
        raise NoMoment("there is no moment from low on and below high")


def led(edits, t):
    """The moment to which the edits lead t, or None; both must be what they should be."""
    rest = t
    for span, start, rate in edits:
        if less(rest, span):
            return None if start is None else plus(start, times(rate, rest))
        rest = minus(rest, span)
    return None


def mapped(edits, t):
    """The moment to which t is led, or None."""
    refuse_no_edits(edits)
    refuse_no_moment(t)
    return led(edits, t)


def summed_spans(edits):
    """The sum of the spans of what must be edits."""
    found = NOUGHT
    for edit in edits:
        found = plus(found, edit[0])
    return found


def total(edits):
    """The sum of the spans."""
    refuse_no_edits(edits)
    return summed_spans(edits)


def goes_on(edit, start, rate):
    """Whether an edit of this start and rate leads on as the edit just ahead of it does."""
    span, old_start, old_rate = edit
    if start is None or old_start is None:
        return start is None and old_start is None
    return rate == old_rate and start == plus(old_start, times(old_rate, span))


def tidied(edits):
    """The tidy form of what must be edits."""
    found = []
    for span, start, rate in edits:
        if found and goes_on(found[-1], start, rate):
            old_span, old_start, old_rate = found[-1]
            found[-1] = (plus(old_span, span), old_start, old_rate)
        else:
            found.append((span, start, rate))
    if found and found[-1][1] is None:
        found.pop()
    return found


def tidy(edits):
    """The one tidy list of edits that leads all moments as these do."""
    refuse_no_edits(edits)
    return tidied(edits)


def count_alike(one, other):
    """How many edits two lists have in common at their begin."""
    many = 0
    while many < min(len(one), len(other)) and one[many] == other[many]:
        many += 1
    return many


def borders(edits):
    """The rising list of the moments at which an edit begins, and of the end of the last one."""
    found = [NOUGHT]
    for edit in edits:
        found.append(plus(found[-1], edit[0]))
    return found


def merged(one, other):
    """The rising list of the moments of two rising lists, each once."""
    found = []
    at = 0
    for moment in one:
        while at < len(other) and less(other[at], moment):
            found.append(other[at])
            at += 1
        if at < len(other) and other[at] == moment:
            at += 1
        found.append(moment)
    return found + other[at:]


def first_unlike(one, other):
    """A moment that two lists of edits lead otherwise, None where there is none."""
    moments = merged(borders(one), borders(other))
    # Between two borders both lead evenly: if alike at the first and half way, then all the way.
    for low, high in zip(moments, moments[1:]):
        for moment in (low, times(HALF, plus(low, high))):
            if led(one, moment) != led(other, moment):
                return moment
    return None


def parted(one, other):
    """None where both lead all moments alike, else a moment that they lead otherwise."""
    refuse_no_edits(one, other)
    # Tidy ones are looked at, so that lists that lead alike are told the same moment.
    first = tidied(one)
    second = tidied(other)
    many = count_alike(first, second)
    found = first_unlike(first[many:], second[many:])
    return None if found is None else plus(summed_spans(first[:many]), found)


def window(edits, low, high):
    """Edits, not tidied, that lead each t below high less low as these lead low plus t, filled up by a blank."""
    found = []
    ahead = low
    left = minus(high, low)
    for span, start, rate in edits:
        if left == NOUGHT:
            break
        if not less(ahead, span):
            ahead = minus(ahead, span)
            continue
        rest = minus(span, ahead)
        length = rest if less(rest, left) else left
        found.append((length, None if start is None else plus(start, times(rate, ahead)), rate))
        left = minus(left, length)
        ahead = NOUGHT
    if left != NOUGHT:
        found.append((left, None, NOUGHT))
    return found


def laid_over(edit, inner):
    """Edits that lead, for the span of an edit, as it and then inner do."""
    span, start, rate = edit
    if start is None:
        return [edit]
    if rate == NOUGHT:
        return [(span, led(inner, start), NOUGHT)]
    pieces = window(inner, start, plus(start, times(rate, span)))
    return [(shared(length, rate), begin, times(speed, rate)) for length, begin, speed in pieces]


def over(outer, inner):
    """Tidy edits that lead each moment as inner leads the one to which outer leads it."""
    refuse_no_edits(outer, inner)
    found = []
    for edit in outer:
        found.extend(laid_over(edit, inner))
    return tidied(found)


def part(edits, low, high):
    """Tidy edits that lead each t below high less low as these lead low plus t."""
    refuse_no_edits(edits)
    refuse_no_stretch(low, high)
    return tidied(window(edits, low, high))


def after(one, other):
    """Tidy edits that lead as one does ahead of its total, and from there on as the other."""
    refuse_no_edits(one, other)
    return tidied(one + other)


def stretch_of(edit, begin, low, high):
    """The pair (first, behind) of an edit's moments that it leads from low on and below high, or None."""
    span, start, rate = edit
    if start is None or not less(start, high):
        return None
    end = plus(begin, span)
    if rate == NOUGHT:
        return None if less(start, low) else (begin, end)
    reach = plus(start, times(rate, span))
    if not less(low, reach):
        return None
    first = plus(begin, shared(minus(low, start), rate)) if less(start, low) else begin
    behind = plus(begin, shared(minus(high, start), rate)) if less(high, reach) else end
    return (first, behind)


def stretches(edits, low, high):
    """The rising list of the pairs (begin, end) of moments that are led from low on and below high."""
    refuse_no_edits(edits)
    refuse_no_stretch(low, high)
    found = []
    begin = NOUGHT
    for edit in edits:
        pair = stretch_of(edit, begin, low, high)
        begin = plus(begin, edit[0])
        if pair is None:
            continue
        if found and found[-1][1] == pair[0]:
            found[-1] = (found[-1][0], pair[1])
        else:
            found.append(pair)
    return found
