"""The refusals: their classes and their fields."""

import unittest

from lanescroll import errors
from lanescroll.errors import NoFilm, NotKnown, ScrollError

REFUSALS = (
    "NoFraction", "NoMoment", "NoRule", "NoLeaf", "NoCell", "NoEdits", "NoFilm", "NoLane", "NoNumber",
    "NotKnown", "NoBytes", "NoPlace", "NoStuffing", "NoKind", "NoBody", "NoMany", "NoFile", "NoSeal",
    "NoHead", "NotWhole", "NoMatch", "TooMuch", "NoSpan", "NoText", "NoRow", "NoName",
)


class Classes(unittest.TestCase):
    def test_scroll_error_stands_straight_under_value_error(self):
        self.assertEqual(ScrollError.__bases__, (ValueError,))
        self.assertEqual(ScrollError.__module__, "lanescroll.errors")

    def test_each_refusal_stands_straight_under_scroll_error(self):
        for name in REFUSALS:
            with self.subTest(name):
                refusal = getattr(errors, name)
                self.assertEqual(refusal.__bases__, (ScrollError,))
                self.assertEqual(refusal.__name__, name)
                self.assertEqual(refusal.__module__, "lanescroll.errors")

    def test_no_refusal_stands_under_another_one(self):
        refusals = [getattr(errors, name) for name in REFUSALS]
        self.assertEqual(len(set(refusals)), 26)
        for one in refusals:
            for other in refusals:
                with self.subTest(one=one.__name__, other=other.__name__):
                    self.assertEqual(issubclass(one, other), one is other)

    def test_each_refusal_is_caught_by_its_name_and_as_any_refusal(self):
        for name in REFUSALS:
            refusal = getattr(errors, name)
            for caught in (refusal, ScrollError, ValueError):
                with self.subTest(name, caught=caught.__name__):
                    with self.assertRaises(caught):
                        raise refusal()


class Fields(unittest.TestCase):
    def test_no_film_tells_lane_and_leaf(self):
        refusal = NoFilm(3, 150)
        self.assertEqual((refusal.lane, refusal.leaf), (3, 150))

    def test_no_film_takes_its_fields_by_name(self):
        refusal = NoFilm(leaf=5, lane=0)
        self.assertEqual((refusal.lane, refusal.leaf), (0, 5))

    def test_no_film_has_both_fields_where_nothing_is_told(self):
        refusal = NoFilm()
        self.assertIs(refusal.lane, None)
        self.assertIs(refusal.leaf, None)
        refusal = NoFilm(7)
        self.assertEqual(refusal.lane, 7)
        self.assertIs(refusal.leaf, None)

    def test_no_film_keeps_its_fields_when_raised(self):
        with self.assertRaises(NoFilm) as caught:
            raise NoFilm(1, 0)
        self.assertEqual((caught.exception.lane, caught.exception.leaf), (1, 0))

    def test_not_known_tells_its_way(self):
        self.assertEqual(NotKnown([(3, 0), (1, 15)]).way, [(3, 0), (1, 15)])
        self.assertEqual(NotKnown(way=[(9, 2)]).way, [(9, 2)])

    def test_not_known_tells_its_way_as_a_list(self):
        self.assertIs(type(NotKnown([(3, 0)]).way), list)
        self.assertEqual(NotKnown().way, [])

    def test_the_way_is_the_askers_own(self):
        way = [(3, 0), (1, 15)]
        refusal = NotKnown(way)
        way.append((0, 0))
        self.assertEqual(refusal.way, [(3, 0), (1, 15)])
        refusal.way.append((5, 5))
        self.assertEqual(way, [(3, 0), (1, 15), (0, 0)])

    def test_ways_of_two_refusals_are_two_lists(self):
        one, other = NotKnown(), NotKnown()
        one.way.append((0, 0))
        self.assertEqual(other.way, [])

    def test_not_known_keeps_its_way_when_raised(self):
        with self.assertRaises(NotKnown) as caught:
            raise NotKnown([(2, 1)])
        self.assertEqual(caught.exception.way, [(2, 1)])


if __name__ == "__main__":
    unittest.main()
