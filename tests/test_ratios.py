"""Fractions and moments, points 5 and 6."""

import unittest
from fractions import Fraction
from math import floor as exact_floor, gcd

from lanescroll.errors import NoFraction
from lanescroll.ratios import (
    common_divisor, floor, fraction, is_fraction, is_moment, less, minus, plus, shared, times,
)
from tests.things import FORTY, LARGE, NEAR_FORTY, no_numbers, no_tuples

WORTHS = [Fraction(top, bottom) for top in range(-5, 6) for bottom in range(1, 5)]
WORTHS += [Fraction(FORTY, NEAR_FORTY), Fraction(-FORTY, 3), Fraction(7, FORTY), Fraction(-NEAR_FORTY)]


def told(worth):
    """The tuple that the document asks for, of a fraction of Python's own."""
    return (worth.numerator, worth.denominator)


class FractionCase(unittest.TestCase):
    def assert_told(self, found, worth):
        self.assertEqual(found, told(worth))
        self.assertIs(type(found), tuple)
        self.assertEqual([type(part) for part in found], [int, int])
        self.assertGreaterEqual(found[1], 1)
        self.assertEqual(gcd(found[0], found[1]), 1)


class Divisor(unittest.TestCase):
    def test_small_numbers(self):
        for one in range(30):
            for other in range(30):
                with self.subTest(one=one, other=other):
                    self.assertEqual(common_divisor(one, other), gcd(one, other))


class Made(FractionCase):
    def test_small_numbers_of_either_sign(self):
        for top in range(-24, 25):
            for bottom in range(-24, 25):
                if bottom != 0:
                    with self.subTest(top=top, bottom=bottom):
                        self.assert_told(fraction(top, bottom), Fraction(top, bottom))

    def test_written_out(self):
        self.assertEqual(fraction(6, 4), (3, 2))
        self.assertEqual(fraction(-6, 4), (-3, 2))
        self.assertEqual(fraction(6, -4), (-3, 2))
        self.assertEqual(fraction(-6, -4), (3, 2))
        self.assertEqual(fraction(3, 7), (3, 7))
        self.assertEqual(fraction(8, 4), (2, 1))

    def test_nought_has_one_form(self):
        for bottom in (1, -1, 2, -2, 7, *LARGE):
            with self.subTest(bottom):
                self.assert_told(fraction(0, bottom), Fraction(0))
                self.assertEqual(fraction(0, bottom), (0, 1))

    def test_the_bottom_may_be_left_out(self):
        for top in (0, 1, -1, 12, -12, *LARGE):
            with self.subTest(top):
                self.assertEqual(fraction(top), (top, 1))

    def test_numbers_of_forty_figures(self):
        numbers = (*LARGE, 6 * FORTY, -6 * FORTY, 10 ** 39, -10 ** 39, 2 ** 130, 3 ** 80, 5 ** 50, 1, -1, 6)
        for top in numbers:
            for bottom in numbers:
                with self.subTest(top=top, bottom=bottom):
                    self.assert_told(fraction(top, bottom), Fraction(top, bottom))

    def test_the_longest_way_to_lowest_terms(self):
        low, high = 0, 1
        while high < 10 ** 60:
            low, high = high, low + high
        self.assertEqual(fraction(low, high), (low, high))
        self.assertEqual(fraction(12 * low, -12 * high), (-low, high))

    def test_numbers_of_thousands_of_figures(self):
        long = 7 ** 6000
        self.assertEqual(fraction(long * 6, long * -4), (-3, 2))
        self.assertIs(is_fraction((long, 2 ** 9000)), True)
        self.assertIs(is_moment((long * 3, 2 ** 9000 * 3)), False)
        with self.assertRaises(NoFraction):
            fraction(long, 0)

    def test_a_bottom_of_nought(self):
        for top in (0, 1, -1, *LARGE):
            with self.subTest(top):
                with self.assertRaises(NoFraction):
                    fraction(top, 0)

    def test_a_top_that_is_no_whole_number(self):
        for top in no_numbers():
            for bottom in (1, 0, -3):
                with self.subTest(top=repr(top), bottom=bottom):
                    with self.assertRaises(NoFraction):
                        fraction(top, bottom)
            with self.subTest(top=repr(top)):
                with self.assertRaises(NoFraction):
                    fraction(top)

    def test_a_bottom_that_is_no_whole_number(self):
        for bottom in no_numbers():
            for top in (1, 0, -3):
                with self.subTest(top=top, bottom=repr(bottom)):
                    with self.assertRaises(NoFraction):
                        fraction(top, bottom)

    def test_both_are_no_whole_numbers(self):
        for thing in no_numbers():
            with self.subTest(repr(thing)):
                with self.assertRaises(NoFraction):
                    fraction(thing, thing)

    def test_what_is_refused_stays_as_it_was(self):
        top, bottom = [1, [2]], {3: [4]}
        with self.assertRaises(NoFraction):
            fraction(top, bottom)
        self.assertEqual((top, bottom), ([1, [2]], {3: [4]}))

    def test_arguments_by_their_names(self):
        self.assertEqual(fraction(bottom=8, top=6), (3, 4))
        self.assertEqual(fraction(6, bottom=-8), (-3, 4))
        self.assertEqual(fraction(top=9), (9, 1))


class IsFraction(unittest.TestCase):
    def test_small_pairs(self):
        for top in range(-12, 13):
            for bottom in range(-12, 13):
                right = bottom >= 1 and gcd(top, bottom) == 1
                with self.subTest(top=top, bottom=bottom):
                    self.assertIs(is_fraction((top, bottom)), right)

    def test_forms_of_nought(self):
        self.assertIs(is_fraction((0, 1)), True)
        for bottom in (0, -1, 2, -2, 10 ** 40):
            with self.subTest(bottom):
                self.assertIs(is_fraction((0, bottom)), False)

    def test_the_same_worth_otherwise_written(self):
        self.assertIs(is_fraction((1, 2)), True)
        for thing in ((2, 4), (-1, -2), (50, 100), (FORTY, 2 * FORTY), [1, 2], 0.5, "1/2", Fraction(1, 2)):
            with self.subTest(repr(thing)):
                self.assertIs(is_fraction(thing), False)

    def test_numbers_of_forty_figures(self):
        self.assertIs(is_fraction((FORTY, 10 ** 39)), gcd(FORTY, 10 ** 39) == 1)
        self.assertIs(is_fraction((10 ** 39, NEAR_FORTY)), True)
        self.assertIs(is_fraction((-10 ** 39, NEAR_FORTY)), True)
        self.assertIs(is_fraction((10 ** 39, -NEAR_FORTY)), False)
        self.assertIs(is_fraction((3 * FORTY, NEAR_FORTY)), False)
        self.assertIs(is_fraction((-NEAR_FORTY, 3 * FORTY)), False)

    def test_tuples_of_another_length(self):
        for thing in ((), (1,), (0,), (1, 2, 3), (0, 1, 1), (1, 2) * 150):
            with self.subTest(thing):
                self.assertIs(is_fraction(thing), False)

    def test_lists_of_two(self):
        for thing in ([0, 1], [1, 2], [-3, 2], [FORTY, 1]):
            with self.subTest(thing):
                self.assertIs(is_fraction(thing), False)

    def test_truths_in_either_place(self):
        for thing in ((True, 1), (False, 1), (1, True), (0, True), (True, True), (True, 2), (3, True)):
            with self.subTest(thing):
                self.assertIs(is_fraction(thing), False)

    def test_other_things_in_either_place(self):
        for wrong in no_numbers():
            with self.subTest(repr(wrong)):
                self.assertIs(is_fraction((wrong, 1)), False)
                self.assertIs(is_fraction((1, wrong)), False)
                self.assertIs(is_fraction((wrong, wrong)), False)

    def test_things_of_other_kinds(self):
        for thing in no_tuples():
            with self.subTest(repr(thing)):
                self.assertIs(is_fraction(thing), False)

    def test_what_fraction_tells_is_one(self):
        for top in range(-9, 10):
            for bottom in (-6, -1, 1, 4, 9):
                with self.subTest(top=top, bottom=bottom):
                    self.assertIs(is_fraction(fraction(top, bottom)), True)

    def test_argument_by_its_name(self):
        self.assertIs(is_fraction(thing=(1, 2)), True)
        self.assertIs(is_fraction(thing=(2, 2)), False)

    def test_the_thing_stays_as_it_was(self):
        thing = ([1], [2])
        is_fraction(thing)
        is_moment(thing)
        self.assertEqual(thing, ([1], [2]))


class IsMoment(unittest.TestCase):
    def test_small_pairs(self):
        for top in range(-12, 13):
            for bottom in range(-12, 13):
                right = top >= 0 and bottom >= 1 and gcd(top, bottom) == 1
                with self.subTest(top=top, bottom=bottom):
                    self.assertIs(is_moment((top, bottom)), right)

    def test_nought_and_its_neighbours(self):
        self.assertIs(is_moment((0, 1)), True)
        self.assertIs(is_moment((1, FORTY)), True)
        self.assertIs(is_moment((-1, FORTY)), False)
        self.assertIs(is_moment((0, 2)), False)

    def test_numbers_of_forty_figures(self):
        self.assertIs(is_moment((NEAR_FORTY, 10 ** 39)), True)
        self.assertIs(is_moment((-NEAR_FORTY, 10 ** 39)), False)
        self.assertIs(is_moment((NEAR_FORTY, 3)), False)

    def test_the_same_worth_otherwise_written(self):
        for thing in ((2, 4), (-1, -2), [1, 2], 0.5, 1, 0, "1/2", Fraction(1, 2)):
            with self.subTest(repr(thing)):
                self.assertIs(is_moment(thing), False)

    def test_tuples_of_another_length(self):
        for thing in ((), (1,), (0,), (1, 2, 3), (0, 1, 1)):
            with self.subTest(thing):
                self.assertIs(is_moment(thing), False)

    def test_truths_in_either_place(self):
        for thing in ((True, 1), (False, 1), (1, True), (0, True), (True, True), (True, 2)):
            with self.subTest(thing):
                self.assertIs(is_moment(thing), False)

    def test_other_things_in_either_place(self):
        for wrong in no_numbers():
            with self.subTest(repr(wrong)):
                self.assertIs(is_moment((wrong, 1)), False)
                self.assertIs(is_moment((1, wrong)), False)

    def test_things_of_other_kinds(self):
        for thing in no_tuples():
            with self.subTest(repr(thing)):
                self.assertIs(is_moment(thing), False)

    def test_argument_by_its_name(self):
        self.assertIs(is_moment(thing=(3, 2)), True)
        self.assertIs(is_moment(thing=(-3, 2)), False)


class Reckoned(FractionCase):
    def test_sums_differences_and_products(self):
        for one in WORTHS:
            for other in WORTHS:
                with self.subTest(one=one, other=other):
                    self.assert_told(plus(told(one), told(other)), one + other)
                    self.assert_told(minus(told(one), told(other)), one - other)
                    self.assert_told(times(told(one), told(other)), one * other)

    def test_shared(self):
        for one in WORTHS:
            for other in WORTHS:
                if other != 0:
                    with self.subTest(one=one, other=other):
                        self.assert_told(shared(told(one), told(other)), one / other)

    def test_shared_by_nought(self):
        for one in WORTHS:
            with self.subTest(one):
                with self.assertRaises(NoFraction):
                    shared(told(one), (0, 1))

    def test_less(self):
        for one in WORTHS:
            for other in WORTHS:
                with self.subTest(one=one, other=other):
                    self.assertIs(less(told(one), told(other)), one < other)

    def test_less_of_near_neighbours(self):
        self.assertIs(less((FORTY, FORTY + 1), (FORTY + 1, FORTY + 2)), True)
        self.assertIs(less((FORTY + 1, FORTY + 2), (FORTY, FORTY + 1)), False)
        self.assertIs(less((-1, FORTY), (0, 1)), True)
        self.assertIs(less((0, 1), (-1, FORTY)), False)

    def test_floor(self):
        for one in WORTHS:
            with self.subTest(one):
                found = floor(told(one))
                self.assertEqual(found, exact_floor(one))
                self.assertIs(type(found), int)

    def test_floor_written_out(self):
        for one, found in (((7, 2), 3), ((-7, 2), -4), ((4, 1), 4), ((-4, 1), -4), ((0, 1), 0),
                           ((1, FORTY), 0), ((-1, FORTY), -1), ((FORTY, 1), FORTY)):
            with self.subTest(one):
                self.assertEqual(floor(one), found)

    def test_arguments_by_their_names(self):
        self.assertEqual(plus(other=(1, 3), one=(1, 2)), (5, 6))
        self.assertEqual(minus(other=(1, 3), one=(1, 2)), (1, 6))
        self.assertEqual(times(other=(2, 3), one=(1, 2)), (1, 3))
        self.assertEqual(shared(other=(1, 3), one=(1, 2)), (3, 2))
        self.assertIs(less(other=(1, 3), one=(1, 2)), False)
        self.assertIs(less(other=(1, 2), one=(1, 3)), True)
        self.assertEqual(floor(one=(-1, 2)), -1)
        with self.assertRaises(NoFraction):
            shared(other=(0, 1), one=(1, 2))


if __name__ == "__main__":
    unittest.main()
