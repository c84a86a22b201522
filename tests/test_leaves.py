"""Leaves, points 8 and 9."""

import unittest

from lanescroll.errors import NoCell, NoLeaf
from lanescroll.leaves import Full, Leaf, Still, Woven, fits, leaf_of
from lanescroll.rules import Mixed, Moved, Plain
from tests.things import anything, wrong_whole

BEGIN, SPAN, BACK = (0, 10 ** 9), (1, 10 ** 9), (1, 200)
RULES = (("plain", 7), ("moved", 2, 1, 9), ("mixed", 1, 0, 3, 2))
FULL = ("full", 5, 6, (1, 2, 3))
STILL = ("still", 7, 8, 4)
WOVEN = ("woven", 9, 10, RULES)
LEAVES = (FULL, STILL, WOVEN)
CLASSES = {"full": Full, "still": Still, "woven": Woven}


def with_part(told, place, part):
    """A leaf as told, with another part in one place."""
    return told[:place] + (part,) + told[place + 1:]


class LeafCase(unittest.TestCase):
    def assert_none(self, told):
        with self.assertRaises(NoLeaf):
            leaf_of(told)


class Made(LeafCase):
    def test_each_kind(self):
        for told in LEAVES:
            with self.subTest(told):
                leaf = leaf_of(told)
                self.assertIs(type(leaf), CLASSES[told[0]])
                self.assertIsInstance(leaf, Leaf)
                self.assertEqual(leaf.told(), told)
                self.assertIs(type(leaf.told()), tuple)
                self.assertEqual((leaf.begin, leaf.span), (told[1], told[2]))

    def test_each_kind_stands_straight_under_leaf(self):
        for made in CLASSES.values():
            self.assertEqual(made.__bases__, (Leaf,))

    def test_begin_and_span_at_both_ends_and_beyond(self):
        for told in LEAVES:
            for place, (low, high) in ((1, BEGIN), (2, SPAN)):
                for number in (low, high):
                    right = with_part(told, place, number)
                    with self.subTest(right):
                        leaf = leaf_of(right)
                        self.assertEqual(leaf.told(), right)
                        self.assertEqual((leaf.begin, leaf.span), right[1:3])
                for wrong in wrong_whole(low, high):
                    with self.subTest(kind=told[0], place=place, wrong=type(wrong)):
                        self.assert_none(with_part(told, place, wrong))

    def test_backs_of_a_still(self):
        for back in BACK:
            self.assertEqual(leaf_of(with_part(STILL, 3, back)).told(), with_part(STILL, 3, back))
        for wrong in wrong_whole(*BACK):
            with self.subTest(type(wrong)):
                self.assert_none(with_part(STILL, 3, wrong))

    def test_how_many_values(self):
        for many in (1, 2, 15, 16):
            told = ("full", 0, 1, tuple(range(many)))
            self.assertEqual(leaf_of(told).told(), told)
        for many in (0, 17, 18, 300):
            self.assert_none(("full", 0, 1, (0,) * many))

    def test_how_many_rules(self):
        for many in (1, 2, 15, 16):
            told = ("woven", 0, 1, tuple([("plain", value) for value in range(many)]))
            self.assertEqual(leaf_of(told).told(), told)
        for many in (0, 17, 18, 300):
            self.assert_none(("woven", 0, 1, (("plain", 0),) * many))

    def test_values_at_any_place(self):
        for place in range(3):
            for value in (0, 255):
                told = with_part(FULL, 3, with_part((1, 2, 3), place, value))
                self.assertEqual(leaf_of(told).told(), told)
            for wrong in wrong_whole(0, 255):
                with self.subTest(place=place, wrong=type(wrong)):
                    self.assert_none(with_part(FULL, 3, with_part((1, 2, 3), place, wrong)))

    def test_rules_at_any_place(self):
        wrongs = [("plain", 256), ("plain", -1), ("plain",), ("moved", 0, 0, 0), ("moved", 201, 0, 0),
                  ("moved", 1, 16, 0), ("mixed", 1, 0, 1, 16), ("mixed", 1, 0, 0, 1), ["plain", 1], 1,
                  ("still", 0, 1, 1), Plain(1), ("plain", True)]
        for place in range(3):
            for wrong in wrongs + anything():
                with self.subTest(place=place, wrong=type(wrong)):
                    self.assert_none(with_part(WOVEN, 3, with_part(RULES, place, wrong)))

    def test_values_and_rules_that_are_no_tuples(self):
        for told in (FULL, WOVEN):
            for wrong in [list(told[3]), dict.fromkeys(told[3]), set(told[3]), "123"] + anything():
                if isinstance(wrong, tuple) and wrong and set(map(type, wrong)) == {int} and told == FULL:
                    continue
                with self.subTest(kind=told[0], wrong=type(wrong)):
                    self.assert_none(with_part(told, 3, wrong))

    def test_what_another_kind_holds(self):
        for told in LEAVES:
            for other in LEAVES:
                if told != other:
                    with self.subTest(told=told, other=other):
                        self.assert_none(with_part(told, 3, other[3]))

    def test_a_part_more_and_a_part_less(self):
        for told in LEAVES:
            for wrong in (told[:-1], told[:1], told[1:], told + (1,), told + (None,), told * 2, (told,), [told]):
                with self.subTest(wrong):
                    self.assert_none(wrong)

    def test_a_list_in_the_tuples_place(self):
        for told in LEAVES:
            self.assert_none(list(told))

    def test_other_words_for_a_kind(self):
        for told in LEAVES:
            for word in ["", "Full", "full ", "plain", b"full", ("full",), ["full"]] + anything():
                if isinstance(word, str) and word == told[0]:
                    continue
                with self.subTest(told=told, word=type(word)):
                    self.assert_none(with_part(told, 0, word))

    def test_anything(self):
        for thing in anything() + [Full(0, 1, (1,)), Still(0, 1, 1)]:
            with self.subTest(type(thing)):
                self.assert_none(thing)

    def test_arguments_by_their_names(self):
        self.assertEqual(leaf_of(told=FULL).told(), FULL)
        self.assertEqual(Full(values=(1, 2, 3), span=6, begin=5).told(), FULL)
        self.assertEqual(Still(back=4, span=8, begin=7).told(), STILL)
        self.assertEqual(Woven(rules=RULES, span=10, begin=9).told(), WOVEN)
        self.assertEqual(Full(5, 6, (1, 2, 3)).told(), FULL)
        self.assertEqual(Still(7, 8, 4).told(), STILL)
        self.assertEqual(Woven(9, 10, RULES).told(), WOVEN)
        self.assertEqual(leaf_of(FULL).rule(cell=2).told(), ("plain", 3))
        self.assertIs(fits(wide=3, number=0, leaf=leaf_of(FULL)), True)

    def test_base(self):
        leaf = Leaf(span=3, begin=2)
        self.assertEqual((leaf.begin, leaf.span), (2, 3))


class Cells(unittest.TestCase):
    def test_how_many(self):
        self.assertEqual(leaf_of(FULL).cells(), 3)
        self.assertIs(leaf_of(STILL).cells(), None)
        self.assertEqual(leaf_of(WOVEN).cells(), 3)
        self.assertEqual(leaf_of(("full", 0, 1, (0,) * 16)).cells(), 16)
        self.assertEqual(leaf_of(("woven", 0, 1, (("moved", 1, 1, 1),))).cells(), 1)


class RuleOfCell(unittest.TestCase):
    def test_of_a_full(self):
        for cell in range(3):
            rule = leaf_of(FULL).rule(cell)
            self.assertIs(type(rule), Plain)
            self.assertEqual(rule.told(), ("plain", cell + 1))

    def test_of_a_still(self):
        for cell in range(16):
            rule = leaf_of(STILL).rule(cell)
            self.assertIs(type(rule), Moved)
            self.assertEqual(rule.told(), ("moved", 4, cell, 0))

    def test_of_a_woven(self):
        for cell, kind in enumerate((Plain, Moved, Mixed)):
            rule = leaf_of(WOVEN).rule(cell)
            self.assertIs(type(rule), kind)
            self.assertEqual(rule.told(), RULES[cell])

    def test_no_such_cell(self):
        for told, many in ((FULL, 3), (STILL, 16), (WOVEN, 3), (("full", 0, 1, (9,)), 1)):
            leaf = leaf_of(told)
            for wrong in wrong_whole(0, many - 1):
                with self.subTest(told=told, wrong=type(wrong)):
                    with self.assertRaises(NoCell):
                        leaf.rule(wrong)

    def test_needs_changed_by_the_asker(self):
        for told in LEAVES:
            leaf = leaf_of(told)
            for cell in range(3):
                before = list(leaf.rule(cell).needs())
                leaf.rule(cell).needs().append((1, 1))
                self.assertEqual(leaf.rule(cell).needs(), before)
            self.assertEqual(leaf.told(), told)


class Fits(unittest.TestCase):
    def test_full(self):
        for many in (1, 2, 16):
            leaf = leaf_of(("full", 0, 1, (0,) * many))
            for wide in range(1, 17):
                for number in (0, 1, 199):
                    with self.subTest(many=many, wide=wide, number=number):
                        self.assertIs(fits(leaf, number, wide), many == wide)

    def test_still(self):
        for back in (1, 2, 100, 199, 200):
            leaf = leaf_of(("still", 0, 1, back))
            for number in (0, 1, 2, 99, 100, 101, 198, 199, 200):
                for wide in (1, 16):
                    with self.subTest(back=back, number=number, wide=wide):
                        self.assertIs(fits(leaf, number, wide), back <= number)

    def test_woven_of_another_width(self):
        for many in (1, 3, 16):
            leaf = leaf_of(("woven", 0, 1, (("plain", 0),) * many))
            for wide in range(1, 17):
                self.assertIs(fits(leaf, 0, wide), many == wide)

    def test_each_back_one_too_great_alone(self):
        for place in range(3):
            for rule in (("moved", 6, 0, 0), ("mixed", 6, 0, 5, 0), ("mixed", 5, 0, 6, 0)):
                rules = with_part((("moved", 5, 2, 1), ("mixed", 5, 1, 5, 2), ("plain", 0)), place, rule)
                leaf = leaf_of(("woven", 0, 1, rules))
                with self.subTest(place=place, rule=rule):
                    self.assertIs(fits(leaf, 5, 3), False)
                    self.assertIs(fits(leaf, 6, 3), True)

    def test_each_cell_one_too_great_alone(self):
        for place in range(3):
            for rule in (("moved", 1, 3, 0), ("mixed", 1, 3, 1, 2), ("mixed", 1, 2, 1, 3)):
                rules = with_part((("moved", 1, 2, 1), ("mixed", 1, 1, 1, 2), ("plain", 0)), place, rule)
                leaf = leaf_of(("woven", 0, 1, rules))
                with self.subTest(place=place, rule=rule):
                    self.assertIs(fits(leaf, 9, 3), False)
            right = with_part((("plain", 0),) * 3, place, ("mixed", 1, 2, 1, 2))
            self.assertIs(fits(leaf_of(("woven", 0, 1, right)), 9, 3), True)

    def test_the_last_cell_of_the_widest(self):
        leaf = leaf_of(("woven", 0, 1, (("moved", 200, 15, 0),) * 16))
        self.assertIs(fits(leaf, 200, 16), True)
        self.assertIs(fits(leaf, 199, 16), False)
        self.assertIs(fits(leaf, 200, 15), False)


if __name__ == "__main__":
    unittest.main()
