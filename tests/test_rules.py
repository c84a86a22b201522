"""Rules, point 7, and of point 50 what str of a Rule is."""

import unittest

from lanescroll.errors import NoRule
from lanescroll.rules import Mixed, Moved, Plain, Rule, rule_of
from tests.things import anything, wrong_whole

VALUE, BACK, CELL = (0, 255), (1, 200), (0, 15)
BOUNDS = {"plain": (VALUE,), "moved": (BACK, CELL, VALUE), "mixed": (BACK, CELL, BACK, CELL)}
CLASSES = {"plain": Plain, "moved": Moved, "mixed": Mixed}
# Each number in its own place is another one, so that no two can be exchanged unseen.
SAMPLES = {"plain": ("plain", 77), "moved": ("moved", 3, 5, 250), "mixed": ("mixed", 3, 5, 7, 11)}


def with_number(kind, place, number):
    """The sample of a kind, with another number in one place."""
    parts = list(SAMPLES[kind])
    parts[1 + place] = number
    return tuple(parts)


class Made(unittest.TestCase):
    def test_each_kind(self):
        for kind, told in SAMPLES.items():
            with self.subTest(kind):
                rule = rule_of(told)
                self.assertIs(type(rule), CLASSES[kind])
                self.assertIsInstance(rule, Rule)
                self.assertEqual(rule.told(), told)
                self.assertIs(type(rule.told()), tuple)

    def test_each_kind_stands_straight_under_rule(self):
        for made in CLASSES.values():
            self.assertEqual(made.__bases__, (Rule,))

    def test_each_number_at_both_ends_of_its_range(self):
        for kind, bounds in BOUNDS.items():
            for place, ends in enumerate(bounds):
                for number in ends:
                    told = with_number(kind, place, number)
                    with self.subTest(told):
                        self.assertEqual(rule_of(told).told(), told)

    def test_each_number_beyond_its_range_and_things_in_its_place(self):
        for kind, bounds in BOUNDS.items():
            for place, (low, high) in enumerate(bounds):
                for wrong in wrong_whole(low, high):
                    told = with_number(kind, place, wrong)
                    with self.subTest(kind=kind, place=place, wrong=type(wrong)):
                        with self.assertRaises(NoRule):
                            rule_of(told)

    def test_a_part_more_and_a_part_less(self):
        for kind, told in SAMPLES.items():
            for wrong in (told[:-1], told[:1], told + (1,), told + (0,), told + (None,), told[1:], told * 2):
                with self.subTest(wrong):
                    with self.assertRaises(NoRule):
                        rule_of(wrong)

    def test_the_numbers_of_another_kind(self):
        for kind in SAMPLES:
            for other, told in SAMPLES.items():
                if other != kind:
                    with self.subTest(kind=kind, other=other):
                        with self.assertRaises(NoRule):
                            rule_of((kind,) + told[1:])

    def test_a_list_in_a_tuples_place(self):
        for told in SAMPLES.values():
            for wrong in (list(told), (list(told),), (told,), [told]):
                with self.subTest(repr(wrong)):
                    with self.assertRaises(NoRule):
                        rule_of(wrong)

    def test_other_words_for_a_kind(self):
        for told in SAMPLES.values():
            for word in ("", "Plain", "plain ", "full", "woven", b"plain", None, 0, 1, True, (), ("plain",), ["plain"]):
                with self.subTest(word=word, told=told):
                    with self.assertRaises(NoRule):
                        rule_of((word,) + told[1:])
            for odd in anything():
                if isinstance(odd, str) and odd == told[0]:
                    continue
                with self.subTest(odd=type(odd), told=told):
                    with self.assertRaises(NoRule):
                        rule_of((odd,) + told[1:])

    def test_anything(self):
        for thing in anything():
            with self.subTest(type(thing)):
                with self.assertRaises(NoRule):
                    rule_of(thing)

    def test_arguments_by_their_names(self):
        self.assertEqual(rule_of(told=("plain", 3)).told(), ("plain", 3))
        self.assertEqual(Plain(value=9).told(), ("plain", 9))
        self.assertEqual(Moved(add=1, cell=2, back=3).told(), ("moved", 3, 2, 1))
        self.assertEqual(
            Mixed(other_cell=1, other_back=2, cell=3, back=4).told(), ("mixed", 4, 3, 2, 1))
        self.assertEqual(Plain(1).value(found=[]), 1)
        self.assertEqual(Moved(1, 0, 4).value(found=[5]), 9)
        self.assertEqual(Mixed(1, 0, 1, 1).value(found=[5, 8]), 6)

    def test_classes_by_places(self):
        self.assertEqual(Plain(9).told(), ("plain", 9))
        self.assertEqual(Moved(3, 2, 1).told(), ("moved", 3, 2, 1))
        self.assertEqual(Mixed(4, 3, 2, 1).told(), ("mixed", 4, 3, 2, 1))


class Needs(unittest.TestCase):
    def test_each_kind(self):
        self.assertEqual(rule_of(("plain", 5)).needs(), [])
        self.assertEqual(rule_of(("moved", 3, 5, 250)).needs(), [(3, 5)])
        self.assertEqual(rule_of(("mixed", 3, 5, 7, 11)).needs(), [(3, 5), (7, 11)])

    def test_in_the_order_of_the_tuple(self):
        self.assertEqual(rule_of(("mixed", 9, 9, 2, 1)).needs(), [(9, 9), (2, 1)])

    def test_both_alike(self):
        self.assertEqual(rule_of(("mixed", 4, 2, 4, 2)).needs(), [(4, 2), (4, 2)])

    def test_forms(self):
        for told in SAMPLES.values():
            needs = rule_of(told).needs()
            self.assertIs(type(needs), list)
            for pair in needs:
                self.assertIs(type(pair), tuple)

    def test_changed_by_the_asker(self):
        for told in SAMPLES.values():
            rule = rule_of(told)
            before = list(rule.needs())
            needs = rule.needs()
            needs.append((1, 1))
            needs[0] = (200, 15)
            with self.subTest(told):
                self.assertEqual(rule.needs(), before)
                self.assertEqual(rule.told(), told)


class Value(unittest.TestCase):
    def test_plain(self):
        for value in (0, 1, 254, 255):
            self.assertEqual(rule_of(("plain", value)).value([]), value)

    def test_moved(self):
        for add in (0, 1, 127, 128, 254, 255):
            for found in (0, 1, 127, 128, 254, 255):
                with self.subTest(add=add, found=found):
                    self.assertEqual(rule_of(("moved", 1, 0, add)).value([found]), (found + add) % 256)
        self.assertEqual(rule_of(("moved", 200, 15, 255)).value([255]), 254)
        self.assertEqual(rule_of(("moved", 200, 15, 1)).value([255]), 0)

    def test_mixed(self):
        rule = rule_of(("mixed", 1, 0, 2, 3))
        for one in (0, 1, 2, 100, 254, 255):
            for other in (0, 1, 3, 101, 254, 255):
                with self.subTest(one=one, other=other):
                    self.assertEqual(rule.value([one, other]), (one + other) // 2)
        self.assertEqual(rule.value([0, 1]), 0)
        self.assertEqual(rule.value([255, 254]), 254)

    def test_mixed_of_like_pairs_and_unlike_values(self):
        rule = rule_of(("mixed", 4, 2, 4, 2))
        self.assertEqual(rule.value([10, 20]), 15)
        self.assertEqual(rule.value([20, 11]), 15)
        self.assertEqual(rule.value([7, 7]), 7)

    def test_the_list_stays(self):
        for told, found in ((SAMPLES["plain"], []), (SAMPLES["moved"], [9]), (SAMPLES["mixed"], [9, 8])):
            before = list(found)
            rule_of(told).value(found)
            self.assertEqual(found, before)

    def test_asked_twice(self):
        rule = rule_of(("moved", 1, 0, 200))
        self.assertEqual([rule.value([100]), rule.value([3]), rule.value([100])], [44, 203, 44])


class Text(unittest.TestCase):
    def test_str(self):
        for told, text in (
            (("plain", 0), "0"), (("plain", 255), "255"),
            (("moved", 3, 5, 250), "3:5+250"), (("moved", 200, 15, 0), "200:15+0"),
            (("mixed", 3, 5, 7, 11), "3:5/7:11"), (("mixed", 1, 0, 1, 0), "1:0/1:0"),
        ):
            with self.subTest(told):
                self.assertEqual(str(rule_of(told)), text)


if __name__ == "__main__":
    unittest.main()
