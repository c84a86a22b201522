"""A second, plain reckoning of what the document tells, by Python's own fractions, to hold the program against."""

import random
from fractions import Fraction


def told(worth):
    """The tuple that the document asks for, of a fraction of Python's own."""
    worth = Fraction(worth)
    return (worth.numerator, worth.denominator)


def worth(moment):
    """A fraction of Python's own, of a tuple."""
    return Fraction(*moment)


def edit(span, start=None, rate=0):
    """An edit, of numbers."""
    return (told(span), None if start is None else told(start), told(rate))


def led(edits, t):
    """The number to which the edits lead the number t, or None."""
    begin = Fraction(0)
    for span, start, rate in edits:
        end = begin + worth(span)
        if begin <= t < end:
            return None if start is None else worth(start) + worth(rate) * (t - begin)
        begin = end
    return None


def ends(*lists):
    """The borders of all these edits, rising, each once."""
    found = {Fraction(0)}
    for edits in lists:
        at = Fraction(0)
        for span, start, rate in edits:
            at += worth(span)
            found.add(at)
    return sorted(found)


def probes(points):
    """The points, moments between them, a little ahead of and behind each, and far behind the last one."""
    points = sorted(set(points))
    found = set(points)
    for low, high in zip(points, points[1:]):
        gap = high - low
        found.update((low + gap / 2, low + gap / 1000, high - gap / 1000, low + gap / 3))
    found.update((points[-1] + Fraction(1, 1000), points[-1] + 1, points[-1] + 10 ** 9))
    return sorted(found)


def inner_points(outer, inner):
    """The moments that outer leads to a border of inner."""
    found = set()
    begin = Fraction(0)
    for span, start, rate in outer:
        end = begin + worth(span)
        if start is not None and worth(rate) > 0:
            for border in ends(inner):
                t = begin + (border - worth(start)) / worth(rate)
                if begin <= t <= end:
                    found.add(t)
        begin = end
    return sorted(found)


def is_tidy(edits):
    """Whether the list is what point 12 asks of a tidy one."""
    if edits and edits[-1][1] is None:
        return False
    for (span, start, rate), (next_span, next_start, next_rate) in zip(edits, edits[1:]):
        if start is None and next_start is None:
            return False
        if start is not None and next_start is not None and rate == next_rate:
            if worth(next_start) == worth(start) + worth(rate) * worth(span):
                return False
    return True


def some_edits(dice, most=6):
    """Edits by chance, of small numbers, so that borders, starts and ends often meet."""
    found = []
    for _ in range(dice.randint(0, most)):
        span = Fraction(dice.randint(1, 4), dice.choice((1, 1, 2, 3)))
        if dice.random() < 0.25:
            found.append(edit(span))
            continue
        start = Fraction(dice.randint(0, 6), dice.choice((1, 1, 2)))
        rate = dice.choice((0, 0, 1, 1, 1, 2, Fraction(1, 2), Fraction(2, 3)))
        if found and found[-1][1] is not None and dice.random() < 0.4:
            start, rate = worth(found[-1][1]) + worth(found[-1][2]) * worth(found[-1][0]), worth(found[-1][2])
        found.append(edit(span, start, rate))
    return found


def split(dice, edits):
    """Edits that lead alike, parted otherwise."""
    found = []
    for span, start, rate in edits:
        if dice.random() < 0.6:
            first = worth(span) * dice.choice((Fraction(1, 2), Fraction(1, 3), Fraction(3, 7)))
            found.append((told(first), start, rate))
            start = None if start is None else told(worth(start) + worth(rate) * first)
            span = told(worth(span) - first)
        found.append((span, start, rate))
    if dice.random() < 0.5:
        found.append(edit(dice.randint(1, 3)))
    return found


def dice(seed):
    """A source of chance that tells the same each time."""
    return random.Random(seed)


def some_rule(chance, number, wide):
    """A rule as told, by chance, for a leaf of this number."""
    kind = chance.choice(("plain", "moved", "mixed")) if number > 0 else "plain"
    if kind == "plain":
        return ("plain", chance.randrange(256))
    need = (chance.randint(1, number), chance.randrange(wide))
    if kind == "moved":
        return ("moved",) + need + (chance.randrange(256),)
    return ("mixed",) + need + (chance.randint(1, number), chance.randrange(wide))


def some_leaf(chance, number, wide, begin, span):
    """A leaf as told, by chance, that fits this number and width."""
    kind = chance.choice(("full", "still", "woven", "woven")) if number > 0 else chance.choice(("full", "woven"))
    if kind == "full":
        return ("full", begin, span, tuple([chance.randrange(256) for cell in range(wide)]))
    if kind == "still":
        return ("still", begin, span, chance.randint(1, number))
    return ("woven", begin, span, tuple([some_rule(chance, number, wide) for cell in range(wide)]))


def some_lane(chance, wide, many):
    """A lane as told, by chance: leaves in any order of time, touching one another or not."""
    stretches, at = [], 0
    for number in range(many):
        at += chance.choice((0, 0, 1, 5))
        span = chance.randint(1, 4)
        stretches.append((at, span))
        at += span
    chance.shuffle(stretches)
    leaves = [some_leaf(chance, number, wide, *stretch) for number, stretch in enumerate(stretches)]
    return (chance.choice((1, 2, 3, 10)), leaves, some_edits(chance))


def some_film(seed, most_lanes=3, most_leaves=8):
    """A film as told, by chance."""
    chance = dice(seed)
    wide = chance.choice((1, 2, 3, 16))
    lanes = [some_lane(chance, wide, chance.randint(0, most_leaves)) for lane in range(chance.randint(1, most_lanes))]
    return (chance.randrange(10 ** 9 + 1), wide, lanes)


def rules_of(leaf, wide):
    """The rules of a leaf as told, cell by cell."""
    kind, begin, span, held = leaf
    if kind == "full":
        return [("plain", value) for value in held]
    if kind == "still":
        return [("moved", held, cell, 0) for cell in range(wide)]
    return list(held)


def rule_needs(rule):
    """The pairs (back, cell) that a rule as told needs."""
    return {"plain": [], "moved": [rule[1:3]], "mixed": [rule[1:3], rule[3:5]]}[rule[0]]


def rule_value(rule, found):
    """The value that a rule as told tells."""
    if rule[0] == "plain":
        return rule[1]
    if rule[0] == "moved":
        return (found[0] + rule[3]) % 256
    return sum(found) // 2


def pictures(leaves, wide):
    """The plain reading of leaves as told."""
    found = []
    for number, leaf in enumerate(leaves):
        rules = rules_of(leaf, wide)
        needs = [[found[number - back][cell] for back, cell in rule_needs(rule)] for rule in rules]
        found.append(tuple([rule_value(rule, values) for rule, values in zip(rules, needs)]))
    return found


def leaf_at(lane, x):
    """The number of the leaf of a lane as told that is shown at the number x, or None."""
    units, leaves, edits = lane
    for number, (kind, begin, span, held) in enumerate(leaves):
        if Fraction(begin, units) <= x < Fraction(begin + span, units):
            return number
    return None


def needs(told, wide, pair):
    """The needs of a cell, as pairs (number, cell)."""
    if pair[0] not in told:
        return []
    rule = rules_of(told[pair[0]], wide)[pair[1]]
    return [(pair[0] - back, cell) for back, cell in rule_needs(rule)]


def hung_on(told, wide, number, cell):
    """The set of the pairs on which a cell hangs, as far as the leaves as told tell."""
    found, waiting = set(), [(number, cell)]
    while waiting:
        pair = waiting.pop()
        if pair not in found:
            found.add(pair)
            waiting += needs(told, wide, pair)
    return found


def turning_points(told_lane):
    """The moments at which what is shown of a lane as told may turn."""
    units, leaves, edits = told_lane
    found, begin = {Fraction(0)}, Fraction(0)
    for span, start, rate in edits:
        if start is not None and rate[0] > 0:
            for kind, leaf_begin, leaf_span, held in leaves:
                for unit in (leaf_begin, leaf_begin + leaf_span):
                    t = begin + (Fraction(unit, units) - Fraction(*start)) / Fraction(*rate)
                    if begin <= t <= begin + Fraction(*span):
                        found.add(t)
        begin += Fraction(*span)
        found.add(begin)
    return found
