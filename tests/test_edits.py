"""Edits, points 10 to 14, and what point 3 promises of them."""

import copy
import unittest
from fractions import Fraction

from lanescroll import edits as module
from lanescroll.edits import after, is_edits, mapped, over, part, parted, stretches, tidy, total
from lanescroll.errors import NoEdits, NoMoment
from lanescroll.ratios import is_fraction
from tests.oracle import (
    dice, edit, ends, inner_points, is_tidy, led, probes, some_edits, split, told, worth,
)
from tests.things import FORTY, NEAR_FORTY, anything, no_numbers

HALF = Fraction(1, 2)
SAMPLE = [edit(2, 5, 1), edit(1), edit(HALF, 3, 0), edit(Fraction(2, 3), Fraction(1, 7), Fraction(5, 2))]
GREAT = [
    edit(Fraction(FORTY, NEAR_FORTY), 3, Fraction(7, FORTY)),
    edit(Fraction(1, FORTY)),
    edit(Fraction(NEAR_FORTY, 10 ** 39), Fraction(NEAR_FORTY, 2), Fraction(FORTY, 10)),
    edit(Fraction(1, 10 ** 39), 0, 0),
]


def no_edit_things():
    """Things that are no edit, each wrong in one way."""
    found = [
        (), ((1, 1),), ((1, 1), (0, 1)), ((1, 1), (0, 1), (1, 1), (1, 1)), [(1, 1), (0, 1), (1, 1)],
        ((0, 1), (0, 1), (1, 1)), ((-1, 1), (0, 1), (1, 1)), ((2, 2), (0, 1), (1, 1)), ((1, 0), (0, 1), (1, 1)),
        ([1, 1], (0, 1), (1, 1)), ((1, 1), [0, 1], (1, 1)), ((1, 1), (0, 1), [1, 1]),
        ((1, 1), (-1, 1), (1, 1)), ((1, 1), (2, 4), (1, 1)), ((1, 1), (0, 2), (1, 1)),
        ((1, 1), (0, 1), (-1, 2)), ((1, 1), (0, 1), (2, 4)), ((1, 1), (0, 1), None), (None, (0, 1), (1, 1)),
        ((1, 1), None, (1, 1)), ((1, 1), None, (1, 2)), ((1, 1), None, None), ((1, 1), None, (0, 2)),
        ((1, 1), None, (-1, 1)), ((1, 1), None, 0), ((1, 1), None, (False, True)), ((1, 1), None, (0, True)),
        ((1, 1), None, (0.0, 1)), ((1, 1), None, [0, 1]), ((0, 1), None, (0, 1)), ((-1, 2), None, (0, 1)),
        ((1, True), None, (0, 1)), ((1, 1), False, (0, 1)), ((1, 1), 0, (0, 1)), ((True, 1), (0, 1), (1, 1)),
        ((1, 1), (False, 1), (1, 1)), ((1, 1), (0, 1), (True, 1)),
    ]
    for wrong in no_numbers():
        found += [((wrong, 1), (0, 1), (1, 1)), ((1, 1), (wrong, 1), (1, 1)), ((1, 1), (0, 1), (1, wrong))]
        if wrong is not None:
            found.append(((1, 1), wrong if not isinstance(wrong, tuple) else [wrong], (1, 1)))
    return found + [thing for thing in anything()]


def no_moments():
    """Things that are no moment."""
    right = ((0, 1), (1, 2))
    found = [thing for thing in anything() if not (type(thing) is tuple and len(thing) == 2 and thing in right)]
    return found + [(-1, 1), (2, 4), (0, 2), (1, 0), (1, -2), [1, 2], (True, 1), (1, True), (1, 2, 3)]


class EditsCase(unittest.TestCase):
    def assert_edits(self, edits):
        self.assertIs(type(edits), list)
        self.assertIs(is_edits(edits), True)

    def assert_tidy(self, edits):
        self.assert_edits(edits)
        self.assertTrue(is_tidy(edits), edits)

    def assert_leads(self, edits, points, asked):
        """At each probe of the points the edits lead as asked, a function of numbers, tells."""
        for t in probes(points):
            found = mapped(edits, told(t))
            right = asked(t)
            self.assertEqual(found, None if right is None else told(right), t)


class IsEdits(EditsCase):
    def test_lists_of_edits(self):
        for right in ([], SAMPLE, GREAT, [edit(1)], [edit(1)] * 300, [edit(1, 0, 0)], [edit(HALF, 7, HALF)] * 60):
            self.assertIs(is_edits(right), True)

    def test_no_edit_at_any_place(self):
        for wrong in no_edit_things():
            for at in range(len(SAMPLE) + 1):
                self.assertIs(is_edits(SAMPLE[:at] + [wrong] + SAMPLE[at:]), False, type(wrong))
            self.assertIs(is_edits([wrong]), False)

    def test_things_that_are_no_list(self):
        for wrong in (tuple(SAMPLE), SAMPLE[0], {0: SAMPLE[0]}, "", None):
            self.assertIs(is_edits(wrong), False)
        for wrong in anything():
            if wrong.__class__ is list and len(wrong) == 0:
                continue
            self.assertIs(is_edits(wrong), False, type(wrong))

    def test_long_lists_that_are_none(self):
        self.assertIs(is_edits([edit(1)] * 5000 + [None]), False)
        self.assertIs(is_edits([None] * 100000), False)

    def test_argument_by_its_name(self):
        self.assertIs(is_edits(thing=SAMPLE), True)


class Refused(EditsCase):
    def calls(self):
        """Each deed as a function of edits in one place, and of things in the moments' places."""
        t = (1, 2)
        return [
            (lambda e: mapped(e, t), lambda e, m: mapped(e, m)),
            (lambda e: total(e), None),
            (lambda e: tidy(e), None),
            (lambda e: parted(e, SAMPLE), None),
            (lambda e: parted(SAMPLE, e), None),
            (lambda e: over(e, SAMPLE), None),
            (lambda e: over(SAMPLE, e), None),
            (lambda e: part(e, t, (1, 1)), lambda e, m: part(e, m, (10 ** 70, 1))),
            (lambda e: part(e, t, (1, 1)), lambda e, m: part(e, (0, 1), m)),
            (lambda e: after(e, SAMPLE), None),
            (lambda e: after(SAMPLE, e), None),
            (lambda e: stretches(e, t, (1, 1)), lambda e, m: stretches(e, m, (10 ** 70, 1))),
            (lambda e: stretches(e, t, (1, 1)), lambda e, m: stretches(e, (0, 1), m)),
        ]

    def test_no_edits(self):
        wrongs = [[wrong] for wrong in no_edit_things()] + [SAMPLE + [None], [None] + SAMPLE, tuple(SAMPLE)]
        wrongs += [thing for thing in anything() if thing.__class__ is not list or len(thing) > 0]
        for by_edits, by_moment in self.calls():
            for wrong in wrongs:
                with self.assertRaises(NoEdits):
                    by_edits(wrong)

    def test_no_moment(self):
        for by_edits, by_moment in self.calls():
            if by_moment is not None:
                for wrong in no_moments():
                    for edits in ([], SAMPLE):
                        with self.assertRaises(NoMoment):
                            by_moment(edits, wrong)

    def test_no_edits_come_ahead_of_no_moment(self):
        for by_edits, by_moment in self.calls():
            if by_moment is not None:
                for wrong in ((-1, 1), None, 5, (2, 4)):
                    for edits in (None, SAMPLE + [()], tuple(SAMPLE)):
                        with self.assertRaises(NoEdits):
                            by_moment(edits, wrong)
        for deed in (part, stretches):
            with self.assertRaises(NoEdits):
                deed(None, (1, 1), (1, 1))

    def test_high_must_be_above_low(self):
        for deed in (part, stretches):
            for low, high in (((1, 1), (1, 1)), ((0, 1), (0, 1)), ((1, 2), (1, 3)), ((FORTY, 1), (FORTY - 1, 1))):
                for edits in ([], SAMPLE):
                    with self.assertRaises(NoMoment):
                        deed(edits, low, high)
            deed(SAMPLE, (1, 3), (1, 2))
            deed(SAMPLE, (0, 1), (1, FORTY))

    def test_arguments_by_their_names(self):
        self.assertEqual(mapped(t=(1, 1), edits=SAMPLE), (6, 1))
        self.assertEqual(total(edits=SAMPLE), told(Fraction(25, 6)))
        self.assertEqual(tidy(edits=SAMPLE), SAMPLE)
        self.assertEqual(parted(other=[], one=SAMPLE), parted(SAMPLE, []))
        self.assertEqual(over(inner=[edit(9, 1, 1)], outer=[edit(1, 2, 1)]), [edit(1, 3, 1)])
        self.assertEqual(part(high=(2, 1), low=(1, 1), edits=SAMPLE), [edit(1, 6, 1)])
        self.assertEqual(after(other=[edit(2, 0, 1)], one=[edit(1, 5, 1)]), [edit(1, 5, 1), edit(2, 0, 1)])
        self.assertEqual(stretches(high=(6, 1), low=(5, 1), edits=SAMPLE), [((0, 1), (1, 1))])


class Mapped(EditsCase):
    def test_borders_and_between(self):
        for edits in (SAMPLE, GREAT, [], [edit(1)], [edit(HALF, 7, 0)], [edit(1, 0, 1)] * 5):
            self.assert_leads(edits, ends(edits), lambda t: led(edits, t))

    def test_written_out(self):
        self.assertEqual(mapped(SAMPLE, (0, 1)), (5, 1))
        self.assertEqual(mapped(SAMPLE, (3, 2)), (13, 2))
        self.assertIs(mapped(SAMPLE, (2, 1)), None)
        self.assertIs(mapped(SAMPLE, (29, 10)), None)
        self.assertEqual(mapped(SAMPLE, (3, 1)), (3, 1))
        self.assertEqual(mapped(SAMPLE, (17, 5)), (3, 1))
        self.assertEqual(mapped(SAMPLE, (7, 2)), (1, 7))
        self.assertEqual(mapped(SAMPLE, (4, 1)), told(Fraction(1, 7) + Fraction(5, 4)))
        self.assertIs(mapped(SAMPLE, (25, 6)), None)
        self.assertIs(mapped(SAMPLE, (100, 1)), None)
        self.assertIs(mapped([], (0, 1)), None)

    def test_just_ahead_of_an_end(self):
        self.assertEqual(mapped([edit(2, 5, 1), edit(1, 0, 1)], (2 * FORTY - 1, FORTY)), told(7 - Fraction(1, FORTY)))
        self.assertEqual(mapped([edit(2, 5, 1), edit(1, 0, 1)], (2, 1)), (0, 1))

    def test_by_chance(self):
        for seed in range(60):
            edits = some_edits(dice(seed))
            self.assert_leads(edits, ends(edits), lambda t: led(edits, t))


class Total(EditsCase):
    def test_totals(self):
        self.assertEqual(total([]), (0, 1))
        for edits in (SAMPLE, GREAT, [edit(1)], [edit(Fraction(1, 3))] * 300):
            self.assertEqual(total(edits), told(ends(edits)[-1]))

    def test_many_great_bottoms(self):
        edits = [edit(Fraction(1, 10 ** 59 + 2 * k + 1), 0, 0) for k in range(300)]
        right = sum((worth(span) for span, start, rate in edits), Fraction(0))
        self.assertEqual(total(edits), told(right))


class Tidy(EditsCase):
    def test_written_out(self):
        for edits, right in (
            ([], []),
            ([edit(1)], []),
            ([edit(1), edit(2)], []),
            ([edit(1, 0, 1), edit(2), edit(3)], [edit(1, 0, 1)]),
            ([edit(1), edit(2), edit(1, 0, 1)], [edit(3), edit(1, 0, 1)]),
            ([edit(1, 0, 1), edit(2, 1, 1)], [edit(3, 0, 1)]),
            ([edit(1, 0, 1), edit(2, 2, 1)], [edit(1, 0, 1), edit(2, 2, 1)]),
            ([edit(1, 0, 1), edit(2, 1, 2)], [edit(1, 0, 1), edit(2, 1, 2)]),
            ([edit(1, 4, 0), edit(2, 4, 0), edit(3, 4, 0)], [edit(6, 4, 0)]),
            ([edit(1, 4, 0), edit(2, 5, 0)], [edit(1, 4, 0), edit(2, 5, 0)]),
            ([edit(1, 0, 1), edit(1), edit(1, 2, 1)], [edit(1, 0, 1), edit(1), edit(1, 2, 1)]),
            ([edit(1, 0, 2), edit(1, 2, 2), edit(1, 4, 2), edit(1, 0, 2)], [edit(3, 0, 2), edit(1, 0, 2)]),
            ([edit(1, 0, 0), edit(1)], [edit(1, 0, 0)]),
        ):
            with self.subTest(edits=edits):
                self.assertEqual(tidy(edits), right)
                self.assertIs(type(tidy(edits)), list)

    def test_the_same_edits_parted_otherwise(self):
        for seed in range(80):
            chance = dice(seed)
            edits = some_edits(chance)
            other = split(chance, edits)
            found = tidy(edits)
            self.assert_tidy(found)
            self.assertEqual(tidy(other), found)
            self.assertEqual(tidy(found), found)
            self.assert_leads(found, ends(edits, found), lambda t: led(edits, t))

    def test_many_parts_of_one(self):
        pieces = [edit(Fraction(1, 3), Fraction(k, 6), HALF) for k in range(300)]
        self.assertEqual(tidy(pieces), [edit(100, 0, HALF)])

    def test_the_told_list_is_the_askers_own(self):
        for edits in ([], SAMPLE):
            found = tidy(edits)
            found.append(None)
            self.assertEqual(tidy(edits), edits)
            self.assert_edits(edits)


class Parted(EditsCase):
    def assert_parted(self, one, other):
        """Both lead alike, or the told moment is one that they lead otherwise."""
        alike = all(led(one, t) == led(other, t) for t in probes(ends(one, other)))
        found = parted(one, other)
        if alike:
            self.assertIs(found, None)
            self.assertEqual(tidy(one), tidy(other))
        else:
            self.assertTrue(is_fraction(found) and found[0] >= 0, found)
            self.assertNotEqual(led(one, worth(found)), led(other, worth(found)))
            self.assertNotEqual(tidy(one), tidy(other))
            self.assertEqual(parted(one, other), found)
            self.assertEqual(parted(copy.deepcopy(one), copy.deepcopy(other)), found)
        return found

    def test_written_out(self):
        for one, other in (
            ([], []), ([], [edit(1)]), ([], [edit(1), edit(2, 0, 0)]), (SAMPLE, SAMPLE), (SAMPLE, SAMPLE[:-1]),
            (SAMPLE, SAMPLE + [edit(1)]), (SAMPLE, SAMPLE + [edit(1, 0, 0)]), (SAMPLE, SAMPLE[1:]), (SAMPLE, GREAT),
            ([edit(1, 3, 1)], [edit(1, 3, 2)]), ([edit(1, 3, 1)], [edit(2, 3, 1)]), ([edit(1, 3, 1)], [edit(1, 4, 1)]),
            ([edit(1), edit(1, 0, 1)], [edit(2), edit(1, 0, 1)]),
            ([edit(1, 0, 1), edit(1, 1, 2)], [edit(2, 0, 1)]),
            ([edit(1, 0, 1), edit(1, 1, 1)], [edit(2, 0, 1)]),
            ([edit(1, 0, 1), edit(1)], [edit(1, 0, 1), edit(1, 5, 0)]),
            ([edit(2, 0, 1), edit(1, 2, 0)], [edit(1, 0, 1), edit(1, 1, 1), edit(1, 2, 3)]),
            ([edit(1, 0, 1), edit(1, 1, 0), edit(1)], [edit(1, 0, 1), edit(HALF, 1, 0), edit(HALF, 1, 0)]),
        ):
            with self.subTest(one=one, other=other):
                self.assert_parted(one, other)
                self.assert_parted(other, one)

    def test_by_chance(self):
        alike = 0
        for seed in range(150):
            chance = dice(seed)
            one = some_edits(chance, 4)
            other = some_edits(chance, 4) if chance.random() < 0.3 else split(chance, one)
            if other and chance.random() < 0.6:
                at = chance.randrange(len(other))
                other[at:at + 1] = some_edits(chance, 2)
            alike += self.assert_parted(one, other) is None
            self.assert_parted(other, one)
        self.assertTrue(10 < alike < 140, alike)

    def test_lists_that_lead_alike_are_told_the_same_moment(self):
        for seed in range(40):
            chance = dice(seed)
            one, other = some_edits(chance), some_edits(chance)
            found = parted(one, other)
            self.assertEqual(parted(split(chance, one), split(chance, other)), found)

    def test_differences_far_behind(self):
        same = [edit(Fraction(1, 10 ** 29 + 2 * k + 1), k, 0) for k in range(59)]
        self.assert_parted(same + [edit(1, 7, 1)], same + [edit(1, 7, 2)])
        self.assert_parted(same + [edit(1, 7, 1)], same + [edit(1, 7, 1)])
        self.assert_parted(same, same + [edit(1, 7, 1)])


class Borders(EditsCase):
    def test_of_one_and_of_two_lists(self):
        for seed in range(60):
            chance = dice(seed)
            one, other = some_edits(chance), some_edits(chance)
            self.assertEqual(module.borders(one), [told(t) for t in ends(one)])
            found = module.merged(module.borders(one), module.borders(other))
            self.assertEqual(found, [told(t) for t in ends(one, other)])

    def test_lists_that_have_no_moment_in_common(self):
        one, other = [(1, 2), (3, 1), (5, 1)], [(0, 1), (1, 1), (2, 1), (4, 1), (6, 1), (7, 1)]
        right = [(0, 1), (1, 2), (1, 1), (2, 1), (3, 1), (4, 1), (5, 1), (6, 1), (7, 1)]
        self.assertEqual(module.merged(one, other), right)
        self.assertEqual(module.merged(other, one), right)


class Over(EditsCase):
    def assert_over(self, outer, inner):
        found = over(outer, inner)
        self.assert_tidy(found)

        def right(t):
            between = led(outer, t)
            return None if between is None else led(inner, between)

        self.assert_leads(found, ends(outer, found) + inner_points(outer, inner), right)

    def test_written_out(self):
        inner = [edit(2, 10, 1), edit(1), edit(1, 20, 2)]
        for outer, right in (
            ([], []),
            ([edit(1)], []),
            ([edit(4, 0, 1)], [edit(2, 10, 1), edit(1), edit(1, 20, 2)]),
            ([edit(2, 0, 2)], [edit(1, 10, 2), edit(HALF), edit(HALF, 20, 4)]),
            ([edit(8, 0, HALF)], [edit(4, 10, HALF), edit(2), edit(2, 20, 1)]),
            ([edit(5, 1, 0)], [edit(5, 11, 0)]),
            ([edit(5, 2, 0)], []),
            ([edit(5, 2, 0), edit(1, 3, 0)], [edit(5), edit(1, 20, 0)]),
            ([edit(9, 3, 1)], [edit(1, 20, 2)]),
            ([edit(9, 3, 1), edit(1, 0, 1)], [edit(1, 20, 2), edit(8), edit(1, 10, 1)]),
            ([edit(1, 4, 1), edit(1, 9, 0), edit(1, 1, 0)], [edit(2), edit(1, 11, 0)]),
            ([edit(1, 0, 1), edit(1, 1, 1)], [edit(2, 10, 1)]),
            ([edit(1, HALF, 1), edit(1)], [edit(1, Fraction(21, 2), 1)]),
        ):
            with self.subTest(outer=outer):
                self.assertEqual(over(outer, inner), right)
                self.assert_over(outer, inner)

    def test_of_no_edits(self):
        self.assertEqual(over(SAMPLE, []), [])
        self.assertEqual(over([], SAMPLE), [])

    def test_great_bottoms(self):
        for outer, inner in ((GREAT, SAMPLE), (SAMPLE, GREAT), (GREAT, GREAT), ([edit(99, 0, 1)], GREAT)):
            self.assert_over(outer, inner)

    def test_by_chance(self):
        for seed in range(120):
            chance = dice(seed)
            self.assert_over(some_edits(chance), some_edits(chance))

    def test_one_behind_the_other_laid_together(self):
        for seed in range(40):
            chance = dice(seed)
            one, two, three = some_edits(chance, 4), some_edits(chance, 4), some_edits(chance, 4)
            self.assertEqual(over(over(one, two), three), over(one, over(two, three)))

    def test_sixty_over_sixty(self):
        inner = [edit(Fraction(1, 10 ** 29 + 2 * k + 1), k, Fraction(k, 7)) for k in range(60)]
        outer = [edit(Fraction(3, 10 ** 28 + k), 0, Fraction(k + 1, k + 2)) for k in range(60)]
        found = over(outer, inner)
        self.assert_tidy(found)
        for t in ends(outer)[:10]:
            between = led(outer, t)
            self.assertEqual(mapped(found, told(t)), told(led(inner, between)))


class Part(EditsCase):
    def assert_part(self, edits, low, high):
        found = part(edits, told(low), told(high))
        self.assert_tidy(found)
        points = [t - low for t in ends(edits) if t >= low] + [high - low, 0]
        self.assert_leads(found, points, lambda t: led(edits, low + t) if t < high - low else None)

    def test_written_out(self):
        for low, high, right in (
            (0, 1, [edit(1, 5, 1)]), (1, 2, [edit(1, 6, 1)]), (2, 3, []), (1, 3, [edit(1, 6, 1)]),
            (2, Fraction(13, 4), [edit(1), edit(Fraction(1, 4), 3, 0)]), (5, 9, []), (Fraction(25, 6), 99, []),
            (4, 99, [edit(Fraction(1, 6), Fraction(1, 7) + Fraction(5, 4), Fraction(5, 2))]), (0, 99, SAMPLE),
        ):
            with self.subTest(low=low, high=high):
                self.assertEqual(part(SAMPLE, told(low), told(high)), right)
                self.assert_part(SAMPLE, Fraction(low), Fraction(high))

    def test_all_borders_and_between(self):
        for edits in (SAMPLE, GREAT, []):
            points = probes(ends(edits))
            for at, low in enumerate(points):
                for high in points[at + 1:at + 8:2]:
                    self.assertIsNone(self.assert_part(edits, low, high))

    def test_by_chance(self):
        for seed in range(80):
            chance = dice(seed)
            edits = some_edits(chance)
            points = probes(ends(edits))
            low, high = sorted(chance.sample(points, 2))
            self.assert_part(edits, low, high)


class After(EditsCase):
    def assert_after(self, one, other):
        found = after(one, other)
        self.assert_tidy(found)
        end = ends(one)[-1]
        points = ends(one) + [end + t for t in ends(other)]
        self.assert_leads(found, points, lambda t: led(one, t) if t < end else led(other, t - end))

    def test_written_out(self):
        for one, other, right in (
            ([], [], []), ([], SAMPLE, SAMPLE), (SAMPLE, [], SAMPLE), ([edit(3)], [], []),
            ([edit(3)], [edit(1, 0, 1)], [edit(3), edit(1, 0, 1)]),
            ([edit(1, 0, 1), edit(2)], [edit(3), edit(1, 0, 1)], [edit(1, 0, 1), edit(5), edit(1, 0, 1)]),
            ([edit(1, 0, 1)], [edit(1, 1, 1)], [edit(2, 0, 1)]),
            ([edit(1, 0, 1)], [edit(2)], [edit(1, 0, 1)]),
        ):
            with self.subTest(one=one, other=other):
                self.assertEqual(after(one, other), right)
                self.assert_after(one, other)

    def test_by_chance(self):
        for seed in range(80):
            chance = dice(seed)
            self.assert_after(some_edits(chance), some_edits(chance))
        self.assert_after(GREAT, SAMPLE)


class Stretches(EditsCase):
    def assert_stretches(self, edits, low, high):
        found = stretches(edits, told(low), told(high))
        self.assertIs(type(found), list)
        borders = ends(edits)
        last = None
        for pair in found:
            self.assertIs(type(pair), tuple)
            begin, end = pair
            self.assertTrue(is_fraction(begin) and is_fraction(end))
            begin, end = worth(begin), worth(end)
            self.assertLess(begin, end)
            self.assertTrue(last is None or last < begin, found)
            last = end
            borders += [begin, end]
        for t in probes(borders):
            x = led(edits, t)
            right = x is not None and low <= x < high
            self.assertEqual(any(worth(b) <= t < worth(e) for b, e in found), right, (t, found))

    def test_written_out(self):
        for edits, low, high, right in (
            ([], 0, 9, []),
            ([edit(9)], 0, 9, []),
            ([edit(4, 0, 1)], 1, 3, [(1, 3)]),
            ([edit(4, 0, 1)], 0, 9, [(0, 4)]),
            ([edit(4, 0, 1)], 4, 9, []),
            ([edit(4, 2, 1)], 0, 2, []),
            ([edit(4, 2, 0)], 2, 3, [(0, 4)]),
            ([edit(4, 2, 0)], 1, 2, []),
            ([edit(4, 0, 2)], 1, 3, [(HALF, Fraction(3, 2))]),
            ([edit(4, 0, 1), edit(4, 0, 1)], 0, 4, [(0, 8)]),
            ([edit(4, 0, 1), edit(4, 0, 1)], 0, 3, [(0, 3), (4, 7)]),
            ([edit(4, 0, 1), edit(1), edit(4, 0, 1)], 0, 4, [(0, 4), (5, 9)]),
            ([edit(4, 0, 1), edit(4, 9, 0), edit(4, 5, 2)], 3, 10, [(3, Fraction(21, 2))]),
            ([edit(1, 3, 0), edit(1, 3, 0), edit(1, 4, 0), edit(1, 3, 0)], 3, 4, [(0, 2), (3, 4)]),
        ):
            with self.subTest(edits=edits, low=low, high=high):
                right = [(told(begin), told(end)) for begin, end in right]
                self.assertEqual(stretches(edits, told(low), told(high)), right)
                self.assert_stretches(edits, Fraction(low), Fraction(high))

    def test_great_bottoms(self):
        for low, high in ((0, 1), (0, FORTY), (3, 4), (Fraction(1, FORTY), Fraction(NEAR_FORTY))):
            self.assert_stretches(GREAT, Fraction(low), Fraction(high))
            self.assert_stretches(SAMPLE, Fraction(low), Fraction(high))

    def test_by_chance(self):
        for seed in range(150):
            chance = dice(seed)
            edits = some_edits(chance)
            low, high = sorted(chance.sample([Fraction(k, 4) for k in range(40)], 2))
            self.assert_stretches(edits, low, high)


class Kept(EditsCase):
    def test_lists_handed_in_stay_and_lists_told_are_new(self):
        one = [edit(1, 0, 1), edit(1, 1, 1), edit(2), edit(1)]
        other = [edit(3, 0, 1), edit(1)]
        before = (list(one), list(other))
        deeds = [
            lambda: mapped(one, (1, 2)), lambda: total(one), lambda: tidy(one), lambda: parted(one, other),
            lambda: over(one, other), lambda: part(one, (0, 1), (9, 1)), lambda: after(one, other),
            lambda: stretches(one, (0, 1), (9, 1)), lambda: is_edits(one), lambda: over(other, one),
            lambda: after([], other), lambda: after(other, []),
        ]
        for deed in deeds:
            found = deed()
            self.assertEqual((one, other), before)
            if isinstance(found, list):
                again = list(found)
                found.append(None)
                found[0] = None
                self.assertEqual((one, other), before)
                self.assertEqual(deed(), again)

    def test_lists_stay_where_they_are_refused(self):
        wrong = [edit(1, 0, 1), None]
        for deed in (total, tidy):
            with self.assertRaises(NoEdits):
                deed(wrong)
        self.assertEqual(wrong, [edit(1, 0, 1), None])

    def test_nothing_is_kept_between_calls(self):
        self.assertEqual(module.NOUGHT, (0, 1))
        edits = [edit(1, 0, 1)]
        self.assertEqual(mapped(edits, (0, 1)), (0, 1))
        edits[0] = edit(1, 5, 1)
        self.assertEqual(mapped(edits, (0, 1)), (5, 1))


if __name__ == "__main__":
    unittest.main()
