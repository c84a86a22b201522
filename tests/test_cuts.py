"""Cutting, joining, editing and laying beside, points 44 to 47, and what point 3 promises of them."""

import copy
import unittest
from fractions import Fraction

from lanescroll.cuts import beside, cut, edited, join, only
from lanescroll.edits import over, part, total
from lanescroll.errors import NoEdits, NoLane, NoMatch, NoMoment, TooMuch
from lanescroll.films import Film, film_of
from tests.oracle import (
    dice, edit, ends, hung_on, inner_points, led, probes, rules_of, some_edits, some_film, some_lane, told,
    turning_points, worth,
)
from tests.things import anything, no_moments, wrong_whole

BOUND = 10 ** 30
LEAVES = [
    ("full", 0, 4, (1, 2)), ("woven", 4, 2, (("moved", 1, 1, 255), ("plain", 7))), ("still", 8, 3, 2),
    ("woven", 12, 2, (("mixed", 1, 0, 2, 1), ("moved", 3, 0, 1))), ("full", 20, 5, (30, 40)),
]
FILM = (77, 2, [(2, LEAVES, [edit(3, 0, 1), edit(1), edit(9, 1, Fraction(1, 2))]),
                (10, [("full", 0, 5, (9, 8))], [edit(1, 0, 1)])])


def shown(film, lane, t):
    """The picture that is shown, or None."""
    found = film.shown(lane, told(t))
    return None if found is None else found[1]


def is_led_into(edits, units, leaf):
    """Whether edits lead some moment to one at which the leaf as told is shown."""
    low, high = Fraction(leaf[1], units), Fraction(leaf[1] + leaf[2], units)
    for span, start, rate in edits:
        if start is None:
            continue
        first, reach = worth(start), worth(start) + worth(rate) * worth(span)
        if low <= first < high or (first < high and low < reach):
            return True
    return False


def renumbered(rule, number, kept):
    """A rule as told, its backs by the numbers among those that are kept."""
    def back(old):
        return kept.index(number) - kept.index(number - old)

    if rule[0] == "plain":
        return rule
    if rule[0] == "moved":
        return ("moved", back(rule[1])) + rule[2:]
    return ("mixed", back(rule[1]), rule[2], back(rule[3]), rule[4])


def cut_by_hand(told_film, low, high):
    """The cut film as told."""
    seal, wide, lanes = told_film
    found = []
    for units, leaves, edits in lanes:
        edits = part(edits, told(low), told(high))
        numbered, pairs = dict(enumerate(leaves)), set()
        for number, leaf in numbered.items():
            if is_led_into(edits, units, leaf):
                for cell in range(wide):
                    pairs |= hung_on(numbered, wide, number, cell)
        kept = sorted({pair[0] for pair in pairs})
        woven = []
        for number in kept:
            rules = enumerate(rules_of(numbered[number], wide))
            rules = [renumbered(rule, number, kept) if (number, cell) in pairs else ("plain", 0)
                     for cell, rule in rules]
            woven.append(("woven",) + numbered[number][1:3] + (tuple(rules),))
        found.append((units, woven, edits))
    return (seal, wide, found)


def room(told_lane):
    """N of point 45, found by trying."""
    units, leaves, edits = told_lane

    def is_enough(number):
        if any(begin + span > number for kind, begin, span, held in leaves):
            return False
        for span, start, rate in edits:
            if start is not None and not worth(start) < Fraction(number, units):
                return False
            if start is not None and worth(start) + worth(rate) * worth(span) > Fraction(number, units):
                return False
        return True

    number = 0
    while not is_enough(number):
        number += 1
    return number


def matching(seed, other_seed):
    """Two films as told, by chance, that match."""
    seal, wide, lanes = some_film(seed, 3, 6)
    chance = dice(other_seed)
    others = []
    for units, leaves, edits in lanes:
        others.append((units,) + some_lane(chance, wide, chance.randint(0, 6))[1:])
    return (seal, wide, lanes), (other_seed, wide, others)


class CutCase(unittest.TestCase):
    def assert_shows(self, film, moments, right):
        """The film shows, lane by lane and moment by moment, what right tells."""
        for lane in range(len(film)):
            for t in moments(lane):
                self.assertEqual(shown(film, lane, t), right(lane, t), (lane, t))


class Cut(CutCase):
    def test_written_out(self):
        found = cut(film_of(FILM), (4, 1), (13, 1))
        self.assertIs(type(found), Film)
        woven = [("woven", 0, 4, (("plain", 1), ("plain", 2))),
                 ("woven", 4, 2, (("moved", 1, 1, 255), ("plain", 7))),
                 ("woven", 8, 3, (("moved", 2, 0, 0), ("moved", 2, 1, 0)))]
        self.assertEqual(found.told(), (77, 2, [(2, woven, [edit(9, 1, Fraction(1, 2))]), (10, [], [])]))

    def test_just_the_cells_that_are_hung_on(self):
        leaves = [("full", 0, 1, (1, 2)), ("full", 1, 1, (3, 4)),
                  ("woven", 2, 1, (("moved", 2, 0, 5), ("mixed", 1, 1, 2, 0))),
                  ("full", 3, 1, (6, 7)), ("woven", 4, 1, (("moved", 2, 0, 1), ("plain", 9)))]
        film = film_of((5, 2, [(1, leaves, [edit(5, 0, 1)])]))
        found = cut(film, (4, 1), (5, 1))
        # Leaf 4 hangs on one cell of leaf 2, that on one of leaf 0; leaves 1 and 3 are left out.
        right = [("woven", 0, 1, (("plain", 1), ("plain", 0))), ("woven", 2, 1, (("moved", 1, 0, 5), ("plain", 0))),
                 ("woven", 4, 1, (("moved", 1, 0, 1), ("plain", 9)))]
        self.assertEqual(found.told()[2], [(1, right, [edit(1, 4, 1)])])
        self.assertEqual(cut(film, (5, 1), (6, 1)).told()[2], [(1, [], [])])
        self.assertEqual(cut(film, (7, 2), (9, 2)).many(0), 4)

    def test_borders(self):
        film = film_of((5, 1, [(1, [("full", k, 1, (k,)) for k in range(4)], [edit(4, 0, 1)])]))
        little = Fraction(1, 10 ** 20)
        for low, high, numbers in ((1, 2, [1]), (1 - little, 2, [0, 1]), (1, 2 + little, [1, 2]), (0, 4, [0, 1, 2, 3]),
                                   (1 + little, 2 - little, [1]), (3, 9, [3]), (4 - little, 9, [3]), (4, 9, [])):
            found = cut(film, told(low), told(high))
            self.assertEqual([leaf[1] for leaf in found.told()[2][0][1]], numbers)
        still = film_of((5, 1, [(1, [("full", k, 1, (k,)) for k in range(4)], [edit(4, 2, 0)])]))
        self.assertEqual([leaf[1] for leaf in cut(still, (1, 1), (2, 1)).told()[2][0][1]], [2])

    def test_by_chance(self):
        for seed in range(80):
            told_film = some_film(seed, 3, 7)
            film = film_of(told_film)
            chance = dice(seed)
            points = probes({t for lane in told_film[2] for t in turning_points(lane)})[:-1]
            for turn in range(6):
                low, high = sorted((chance.choice(points), chance.choice(points)))
                if low == high:
                    continue
                found = cut(film, told(low), told(high))
                self.assertEqual(found.told(), cut_by_hand(told_film, low, high))

                def moments(lane):
                    return [t - low for t in points if t >= low] + [high - low]

                self.assert_shows(found, moments,
                                  lambda lane, t: shown(film, lane, low + t) if t < high - low else None)

    def test_cuts_of_cuts(self):
        for seed in range(40):
            told_film = some_film(seed, 3, 7)
            film = film_of(told_film)
            chance = dice(seed)
            low, middle, end = [Fraction(chance.randint(1, 9), chance.choice((1, 2, 3))) for turn in range(3)]
            once = cut(film, told(low), told(low + middle + end))
            twice = cut(once, told(middle), told(middle + end))
            straight = cut(film, told(low + middle), told(low + middle + end))
            self.assertEqual([twice.edits(lane) for lane in range(len(film))],
                             [straight.edits(lane) for lane in range(len(film))])
            self.assertEqual(twice, straight)

    def test_no_moment(self):
        film = film_of(FILM)
        for wrong in no_moments():
            for low, high in ((wrong, (1, 1)), ((0, 1), wrong), (wrong, wrong)):
                with self.assertRaises(NoMoment):
                    cut(film, low, high)
        for low, high in (((1, 1), (1, 1)), ((2, 1), (1, 1)), ((0, 1), (0, 1)), ((1, 2), (1, 3))):
            with self.assertRaises(NoMoment):
                cut(film, low, high)

    def test_too_much(self):
        film = film_of((5, 1, [(1, [("full", 0, 9, (1,))], [edit(9, 0, 1)]), (1, [], [])]))
        for number, right in ((BOUND, True), (BOUND + 1, False)):
            for low, high in ((0, Fraction(1, number)), (Fraction(1, number), 1), (1 - Fraction(1, number), 1)):
                with self.subTest(number=number, low=low, high=high):
                    if right:
                        self.assertEqual(cut(film, told(low), told(high)).edits(0), [edit(high - low, low, 1)])
                    else:
                        with self.assertRaises(TooMuch):
                            cut(film, told(low), told(high))
        # What is led to none has no size.
        self.assertEqual(cut(film, (9, 1), told(10 + Fraction(1, BOUND + 1))).edits(0), [])
        with self.assertRaises(NoMoment):
            cut(film, (1, BOUND + 1), (1, BOUND + 1))
        with self.assertRaises(TooMuch):
            cut(film, told(Fraction(1, 10 ** 2000)), (1, 1))

    def test_the_film_stays(self):
        film = film_of(FILM)
        cut(high=(5, 1), low=(1, 1), film=film).told()[2].clear()
        self.assertEqual(film.told(), FILM)


class Join(CutCase):
    def test_written_out(self):
        other = (78, 2, [(2, LEAVES[:2], [edit(1), edit(2, 1, 1)]), (10, [], [])])
        found = join(film_of(FILM), film_of(other))
        self.assertIs(type(found), Film)
        later = [("full", 25, 4, (1, 2)), ("woven", 29, 2, LEAVES[1][3])]
        edits = FILM[2][0][2] + [edit(1), edit(2, Fraction(27, 2), 1)]
        self.assertEqual(found.told(), (77, 2, [(2, LEAVES + later, edits),
                                                (10, FILM[2][1][1], [edit(1, 0, 1), edit(12)])]))

    def test_how_much_later(self):
        full = ("full", 0, 1, (5,))
        other = film_of((1, 1, [(4, [full], [edit(1, 0, 1)])]))
        for leaves, edits, number in (
            ([], [], 0), ([full], [], 1), ([("full", 7, 3, (1,))], [edit(1, 0, 1)], 10),
            ([full], [edit(2, 1, 1)], 12), ([full], [edit(2, 1, Fraction(1, 8))], 5), ([], [edit(1, 0, 1)], 4),
            ([], [edit(1, 0, 0)], 1), ([], [edit(1, 1, 0)], 5), ([], [edit(1, Fraction(1, 4), 0)], 2),
            ([], [edit(1, Fraction(5, 16), 0)], 2), ([], [edit(1, 0, Fraction(1, 4))], 1),
            ([], [edit(1, 0, Fraction(5, 16))], 2), ([], [edit(1, Fraction(1, 3), Fraction(1, 10 ** 30))], 2),
            ([], [edit(1)], 0), ([full], [edit(1), edit(5)], 1), ([], [edit(1, 9, 0), edit(1, 0, 1)], 37),
            ([("full", 99, 1, (1,))], [edit(1, 25, 0)], 101), ([("full", 99, 1, (1,))], [edit(1, 24, 1)], 100),
            ([], [edit(1, Fraction(10 ** 9, 4), 0)], None), ([], [edit(1, Fraction(10 ** 9 - 1, 4), 0)], 10 ** 9),
        ):
            with self.subTest(leaves=leaves, edits=edits):
                one = film_of((1, 1, [(4, leaves, edits)]))
                if number is None:
                    with self.assertRaises(TooMuch):
                        join(one, other)
                    continue
                found = join(one, other)
                self.assertEqual(found.told_leaf(0, len(leaves)), ("full", number, 1, (5,)))
                self.assertEqual(found.edits(0)[-1], edit(1, Fraction(number, 4), 1))
                if number < 1000:
                    self.assertEqual(number, room((4, leaves, edits)))

    def test_the_blank_up_to_length(self):
        lanes = [(1, [], [edit(3, 0, 1)]), (1, [], [edit(1, 0, 1), edit(2)]), (1, [], [edit(1, 5, 0)]), (1, [], [])]
        film = film_of((1, 1, lanes))
        found = join(film, film)
        self.assertEqual(found.edits(0), [edit(3, 0, 1), edit(3, 3, 1)])
        # Two blanks stay two, and blanks at the end stay: nothing is tidied.
        self.assertEqual(found.edits(1), [edit(1, 0, 1), edit(2), edit(1, 1, 1), edit(2)])
        self.assertEqual(found.edits(2), [edit(1, 5, 0), edit(2), edit(1, 11, 0)])
        self.assertEqual(found.edits(3), [edit(3)])
        again = join(found, film)
        self.assertEqual(again.edits(3), [edit(3), edit(3)])
        self.assertEqual(again.edits(2), [edit(1, 5, 0), edit(2), edit(1, 11, 0), edit(2), edit(1, 17, 0)])
        empty = film_of((1, 1, [(1, [], [])]))
        self.assertEqual(join(empty, empty).edits(0), [])

    def test_by_chance(self):
        for seed in range(60):
            one_told, other_told = matching(seed, seed + 1000)
            one, other = film_of(one_told), film_of(other_told)
            found = join(one, other)
            length = worth(one.length())
            self.assertEqual((found.seal, found.wide), (one.seal, one.wide))
            for lane, told_lane in enumerate(one_told[2]):
                number = room(told_lane)
                right = other_told[2][lane][1]
                self.assertEqual(found.told()[2][lane][1][len(told_lane[1]):],
                                 [leaf[:1] + (leaf[1] + number,) + leaf[2:] for leaf in right])

            def moments(lane):
                points = turning_points(one_told[2][lane]) | {length}
                return probes(points | {length + t for t in turning_points(other_told[2][lane])})

            def right(lane, t):
                return shown(one, lane, t) if t < length else shown(other, lane, t - length)

            self.assert_shows(found, moments, right)

    def test_joined_twice(self):
        for seed in range(20):
            one_told, other_told = matching(seed, seed + 2000)
            one, other = film_of(one_told), film_of(other_told)
            first, second = join(join(one, other), one), join(one, join(other, one))
            length = worth(one.length()) + worth(other.length())
            self.assertEqual(first.length(), second.length())
            points = {t for lane in one_told[2] for t in turning_points(lane)}
            for lane in range(len(one)):
                for t in probes(points | {length + t for t in points}):
                    self.assertEqual(shown(first, lane, t), shown(second, lane, t))
                    if t >= length:
                        self.assertEqual(shown(first, lane, t), shown(one, lane, t - length))

    def test_no_match(self):
        film = film_of(FILM)
        empty = [(2, [], []), (10, [], [])]
        self.assertEqual(join(film, film_of((1, 2, empty))).told()[1], 2)
        for wide, lanes in ((1, empty), (3, empty), (2, empty[:1]), (2, empty + empty[:1]), (2, empty[::-1]),
                            (2, [empty[0], (9, [], [])]), (2, [(3, [], []), empty[1]])):
            other = film_of((1, wide, lanes))
            for one, second in ((film, other), (other, film)):
                with self.assertRaises(NoMatch):
                    join(one, second)

    def test_too_many_leaves(self):
        def of(many):
            return film_of((1, 1, [(1, [("full", k, 1, (1,)) for k in range(many)], [])]))

        for one, other, right in ((100, 100, True), (100, 101, False), (200, 0, True), (0, 200, True), (200, 1, False)):
            if right:
                self.assertEqual(join(of(one), of(other)).many(0), 200)
            else:
                with self.assertRaises(TooMuch):
                    join(of(one), of(other))

    def test_too_many_edits(self):
        def of(many, more):
            return film_of((1, 1, [(1, [], [edit(1, k, 0) for k in range(many)]), (1, [], [edit(1, 0, 0)] * more)]))

        self.assertEqual(len(join(of(30, 30), of(30, 1)).edits(0)), 60)
        for one, other in ((of(30, 30), of(31, 1)), (of(60, 60), of(1, 0)), (of(60, 59), of(0, 60))):
            with self.assertRaises(TooMuch):
                join(one, other)
        # The blank counts, too.
        self.assertEqual(len(join(of(60, 59), of(0, 0)).edits(1)), 60)
        self.assertEqual(len(join(of(30, 29), of(30, 30)).edits(1)), 60)
        with self.assertRaises(TooMuch):
            join(of(30, 29), of(30, 31))

    def test_too_great_begins(self):
        def of(begin, span):
            return film_of((1, 1, [(1, [("full", begin, span, (1,))], [])]))

        self.assertEqual(join(of(0, 10 ** 9 - 5), of(5, 1)).told_leaf(0, 1)[1], 10 ** 9)
        self.assertEqual(join(of(0, 10 ** 9), of(0, 10 ** 9)).told_leaf(0, 1), ("full", 10 ** 9, 10 ** 9, (1,)))
        for one, other in ((of(0, 10 ** 9 - 5), of(6, 1)), (of(0, 10 ** 9), of(1, 1)), (of(10 ** 9, 1), of(0, 1))):
            with self.assertRaises(TooMuch):
                join(one, other)

    def test_too_great_starts_and_blanks(self):
        full = (1, [("full", 0, 1, (1,))], [])
        for start, right in ((BOUND - 1, True), (BOUND, False), (Fraction(1, BOUND - 1), True),
                             (Fraction(1, BOUND), False)):
            one, other = film_of((1, 1, [full])), film_of((1, 1, [(1, [], [edit(1, start, 1)])]))
            if right:
                self.assertEqual(join(one, other).edits(0), [edit(1, start + 1, 1)])
            else:
                with self.assertRaises(TooMuch):
                    join(one, other)
        for bottom, right in ((10 ** 15, True), (10 ** 16, False)):
            one = film_of((1, 1, [(1, [], [edit(Fraction(1, bottom), 0, 0)]),
                                  (1, [], [edit(Fraction(1, 10 ** 15 - 1))])]))
            if right:
                self.assertEqual(join(one, one).edits(0)[1][0], told(Fraction(1, 10 ** 15 - 1) - Fraction(1, bottom)))
            else:
                with self.assertRaises(TooMuch):
                    join(one, one)

    def test_no_match_ahead_of_too_much(self):
        leaves = [("full", k, 1, (1,)) for k in range(200)]
        for units, wide in ((2, 1), (1, 2)):
            other = film_of((1, wide, [(units, [("full", 0, 1, (1,) * wide)], [])]))
            with self.assertRaises(NoMatch):
                join(film_of((1, 1, [(1, leaves, [])])), other)

    def test_the_films_stay(self):
        one, other = film_of(FILM), film_of(FILM)
        join(other=other, one=one).told()[2][0][1].clear()
        self.assertEqual([one.told(), other.told()], [FILM, FILM])


class Edited(CutCase):
    def test_by_chance(self):
        for seed in range(80):
            told_film = some_film(seed, 3, 6)
            film = film_of(told_film)
            edits = some_edits(dice(seed + 5000))
            before = copy.deepcopy(edits)
            found = edited(film, edits)
            self.assertEqual(edits, before)
            self.assertEqual((found.seal, found.wide), (film.seal, film.wide))

            def moments(lane):
                return probes(set(ends(edits)) | set(inner_points(edits, told_film[2][lane][2])) |
                              set(inner_points(edits, [edit(1)] * 5)))

            def right(lane, t):
                x = led(edits, t)
                return None if x is None else shown(film, lane, x)

            self.assert_shows(found, moments, right)
            for lane, (units, leaves, lane_edits) in enumerate(told_film[2]):
                self.assertEqual(found.told()[2][lane], (units, leaves, over(edits, lane_edits)))

    def test_written_out(self):
        found = edited(film_of(FILM), [edit(1, 1, 2), edit(1), edit(2, 5, 0)])
        self.assertIs(type(found), Film)
        self.assertEqual(found.edits(0), [edit(1, 1, 2), edit(1), edit(2, Fraction(3, 2), 0)])
        self.assertEqual([edited(film_of(FILM), []).edits(lane) for lane in range(2)], [[], []])

    def test_no_edits(self):
        film = film_of(FILM)
        for wrong in anything() + [tuple(FILM[2][0][2]), [edit(1, 0, 1), None], [((0, 1), None, (0, 1))]]:
            if type(wrong) is not list or len(wrong) > 0:
                with self.assertRaises(NoEdits):
                    edited(film, wrong)

    def test_too_much(self):
        film = film_of((1, 1, [(1, [], [edit(1, 0, 1), edit(1, 5, 1)]), (1, [], [])]))
        turns = [edit(1, Fraction(1, 2), 1)] * 31
        self.assertEqual(len(edited(film, turns[:30]).edits(0)), 60)
        with self.assertRaises(TooMuch):
            edited(film, turns)
        for number, right in ((BOUND, True), (BOUND + 1, False)):
            for edits in ([edit(1, 0, Fraction(1, number))], [edit(Fraction(1, number), 0, 1)],
                          [edit(1, Fraction(1, number), 0)]):
                if right:
                    self.assertEqual(edited(film, edits).edits(0), edits)
                else:
                    with self.assertRaises(TooMuch):
                        edited(film, edits)
        self.assertEqual(edited(film, [edit(BOUND + 1, 99, 1)]).edits(0), [])
        with self.assertRaises(NoEdits):
            edited(film, [edit(1, 0, Fraction(1, BOUND + 1)), None])

    def test_edits_of_many(self):
        film = film_of((1, 1, [(1, [("full", 0, 9, (3,))], [edit(9, 0, 1)])]))
        found = edited(film, [edit(Fraction(1, 100), Fraction(k, 100), 1) for k in range(300)])
        self.assertEqual(found.edits(0), [edit(3, 0, 1)])

    def test_edited_twice(self):
        for seed in range(30):
            film = film_of(some_film(seed, 3, 6))
            first, second = some_edits(dice(seed + 100)), some_edits(dice(seed + 200))
            self.assertEqual(edited(edited(film, first), second), edited(film, over(second, first)))

    def test_the_film_stays(self):
        film = film_of(FILM)
        edits = [edit(1, 0, 1)]
        found = edited(edits=edits, film=film)
        edits.clear()
        found.edits(0).clear()
        self.assertEqual(found.edits(0), [edit(1, 0, 1)])
        self.assertEqual(film.told(), FILM)


class BesideAndOnly(CutCase):
    def test_beside(self):
        one, other = film_of(FILM), film_of((5, 2, [(3, LEAVES[:1], [edit(2, 0, 1)])]))
        found = beside(one, other)
        self.assertIs(type(found), Film)
        self.assertEqual(found.told(), (77, 2, FILM[2] + [(3, LEAVES[:1], [edit(2, 0, 1)])]))
        self.assertEqual(beside(other=one, one=other).told(), (5, 2, [(3, LEAVES[:1], [edit(2, 0, 1)])] + FILM[2]))
        self.assertEqual([one.told(), other.told()[0]], [FILM, 5])

    def test_beside_by_chance(self):
        for seed in range(30):
            one_told, other_told = some_film(seed, 4, 5), some_film(seed + 300, 4, 5)
            one, other = film_of(one_told), film_of(other_told)
            if one.wide != other.wide:
                with self.assertRaises(NoMatch):
                    beside(one, other)
                continue
            found = beside(one, other)
            lanes = one_told[2] + other_told[2]
            self.assertEqual(len(found), len(lanes))

            def right(lane, t):
                return shown(one, lane, t) if lane < len(one) else shown(other, lane - len(one), t)

            self.assert_shows(found, lambda lane: probes(turning_points(lanes[lane])), right)

    def test_beside_too_much(self):
        def of(many, wide=1):
            return film_of((1, wide, [(1, [], [])] * many))

        for one in range(1, 9):
            self.assertEqual(len(beside(of(one), of(8 - one))) if one < 8 else 8, 8)
            with self.assertRaises(TooMuch):
                beside(of(one), of(9 - one))
            with self.assertRaises(NoMatch):
                beside(of(one), of(8, 2))

    def test_only(self):
        film = film_of((77, 2, FILM[2] + [(1, [], [edit(1)])]))
        lanes = film.told()[2]
        for wanted in ([0], [1], [2], [0, 1, 2], [2, 1, 0], [1, 1], [0, 0, 0, 0, 2, 2, 2, 2]):
            handed = list(wanted)
            found = only(film, handed)
            self.assertIs(type(found), Film)
            self.assertEqual(found.told(), (77, 2, [lanes[lane] for lane in wanted]))
            self.assertEqual(handed, wanted)
        self.assertEqual(only(lanes=[2], film=film).told(), (77, 2, [lanes[2]]))

    def test_only_no_lane(self):
        film = film_of(FILM)
        for wrong in wrong_whole(0, 1):
            for lanes in ([wrong], [0, wrong], [wrong, 0], [0, 1, 0, 1, 0, 1, 0, wrong]):
                with self.assertRaises(NoLane):
                    only(film, lanes)
        for wrong in [thing for thing in anything() if type(thing) is not list] + [
            [], [0] * 9, [0] * 300, (0,), (0, 1), {0: 1}, range(2), "0", 0, [[0]], [None] * 8,
        ]:
            with self.assertRaises(NoLane):
                only(film, wrong)

    def test_only_of_lanes_twice_are_apart(self):
        found = only(film_of(FILM), [0, 0])
        found.told()[2][0][1].clear()
        self.assertEqual(found.told()[2], [FILM[2][0]] * 2)
        self.assertEqual(total(found.edits(1)), (13, 1))


class InAnotherOrder(CutCase):
    def test_deeds_in_another_order(self):
        for seed in range(30):
            one_told, other_told = matching(seed, seed + 700)
            one, other = film_of(one_told), film_of(other_told)
            chance = dice(seed)
            edits = some_edits(chance)
            low = Fraction(chance.randint(0, 4), 2)
            high = low + Fraction(chance.randint(1, 9), 2)
            both = beside(one, other)
            self.assertEqual(cut(both, told(low), told(high)), beside(cut(one, told(low), told(high)),
                                                                      cut(other, told(low), told(high))))
            self.assertEqual(edited(both, edits), beside(edited(one, edits), edited(other, edits)))
            self.assertEqual(only(both, list(range(len(one)))), one)
            # A cut is what edits that lead from low on for its span show.
            window = [edit(high - low, low, 1)]
            self.assert_shows(cut(one, told(low), told(high)),
                              lambda lane: probes(turning_points(one_told[2][lane])),
                              lambda lane, t: shown(edited(one, window), lane, t))

    def test_a_joined_film_cut_apart(self):
        for seed in range(30):
            one_told, other_told = matching(seed, seed + 900)
            one, other = film_of(one_told), film_of(other_told)
            length, more = worth(one.length()), worth(other.length())
            found = join(one, other)
            if length > 0:
                first = cut(found, (0, 1), told(length))
                self.assert_shows(first, lambda lane: probes(turning_points(one_told[2][lane])),
                                  lambda lane, t: shown(one, lane, t))
            if more > 0:
                second = cut(found, told(length), told(length + more))
                self.assert_shows(second, lambda lane: probes(turning_points(other_told[2][lane])),
                                  lambda lane, t: shown(other, lane, t))


if __name__ == "__main__":
    unittest.main()
