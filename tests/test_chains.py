"""What hangs on what, points 20 to 23."""

import unittest

from lanescroll.chains import known, needed, table
from lanescroll.errors import NotKnown
from lanescroll.leaves import leaf_of
from tests.oracle import dice, hung_on, needs, pictures, rule_value, rules_of, some_leaf


def made(told):
    """The dict of leaves, of a dict of leaves as told."""
    return {number: leaf_of(leaf) for number, leaf in told.items()}


def some_leaves(seed, many=12):
    """The pair of a width and a list of leaves as told, by chance."""
    chance = dice(seed)
    wide = chance.choice((1, 2, 3, 16))
    return wide, [some_leaf(chance, number, wide, number, 1) for number in range(many)]


class ChainCase(unittest.TestCase):
    def assert_cell(self, told, wide, number, cell, reading):
        """All that the three tell of a cell is right; reading is the plain one of the whole lane."""
        leaves = made(told)
        hung = hung_on(told, wide, number, cell)
        if all(pair[0] in told for pair in hung):
            self.assertEqual(known(leaves, number, cell), reading[number][cell])
            self.assert_table(told, wide, table(leaves, number, cell), hung, (number, cell))
        else:
            self.assertIs(known(leaves, number, cell), None)
            with self.assertRaises(NotKnown) as caught:
                table(leaves, number, cell)
            self.assert_way(told, wide, caught.exception.way, (number, cell))

    def assert_table(self, told, wide, rows, hung, asked):
        self.assertIs(type(rows), list)
        self.assertEqual([row[:2] for row in rows], sorted(hung))
        self.assertEqual(rows[-1][:2], asked)
        values = {}
        needs_met = {asked}
        for row in rows:
            self.assertIs(type(row), tuple)
            pair = row[:2]
            found = [values[need] for need in needs(told, wide, pair)]
            self.assertEqual(row[2], rule_value(rules_of(told[pair[0]], wide)[pair[1]], found))
            values[pair] = row[2]
            needs_met.update(needs(told, wide, pair))
        self.assertEqual(needs_met, set(values))

    def assert_way(self, told, wide, way, asked):
        self.assertIs(type(way), list)
        self.assertEqual(way[0], asked)
        for pair, need in zip(way, way[1:]):
            self.assertIs(type(need), tuple)
            self.assertIn(need, needs(told, wide, pair))
        self.assertNotIn(way[-1][0], told)
        for number, cell in way[:-1]:
            self.assertIn(number, told)


class ByChance(ChainCase):
    def test_all_have_come(self):
        for seed in range(30):
            wide, leaves = some_leaves(seed)
            reading = pictures(leaves, wide)
            told = dict(enumerate(leaves))
            for number in range(len(leaves)):
                for cell in range(wide):
                    self.assert_cell(told, wide, number, cell, reading)

    def test_all_but_one(self):
        for seed in range(12):
            wide, leaves = some_leaves(seed, 9)
            reading = pictures(leaves, wide)
            for missing in range(len(leaves)):
                told = {number: leaf for number, leaf in enumerate(leaves) if number != missing}
                for number in range(len(leaves)):
                    for cell in range(wide):
                        self.assert_cell(told, wide, number, cell, reading)

    def test_some_have_come_in_any_order(self):
        for seed in range(60):
            wide, leaves = some_leaves(seed)
            reading = pictures(leaves, wide)
            chance = dice(seed + 1000)
            numbers = [number for number in range(len(leaves)) if chance.random() < 0.7]
            chance.shuffle(numbers)
            told = {number: leaves[number] for number in numbers}
            for number in range(len(leaves) + 2):
                self.assert_cell(told, wide, number, chance.randrange(wide), reading)

    def test_none_has_come(self):
        for number in (0, 1, 199):
            self.assertIs(known({}, number, 3), None)
            with self.assertRaises(NotKnown) as caught:
                table({}, number, 3)
            self.assertEqual(caught.exception.way, [(number, 3)])
            self.assertEqual(needed({}, 4, [number]), [number])

    def test_numbers_beyond_the_last_leaf(self):
        leaves = made({0: ("full", 0, 1, (5, 6))})
        for number in (1, 2, 198, 199):
            self.assertIs(known(leaves, number, 1), None)
            with self.assertRaises(NotKnown) as caught:
                table(leaves, number, 1)
            self.assertEqual(caught.exception.way, [(number, 1)])


class WrittenOut(ChainCase):
    TOLD = {
        0: ("full", 0, 1, (10, 21)),
        1: ("woven", 1, 1, (("moved", 1, 1, 250), ("plain", 3))),
        2: ("still", 2, 1, 1),
        4: ("woven", 4, 1, (("mixed", 2, 0, 4, 1), ("moved", 1, 0, 1))),
    }

    def test_known(self):
        leaves = made(self.TOLD)
        self.assertEqual([known(leaves, 0, 0), known(leaves, 0, 1)], [10, 21])
        self.assertEqual([known(leaves, 1, 0), known(leaves, 1, 1)], [15, 3])
        self.assertEqual([known(leaves, 2, 0), known(leaves, 2, 1)], [15, 3])
        self.assertEqual([known(leaves, 3, 0), known(leaves, 3, 1)], [None, None])
        self.assertEqual([known(leaves, 4, 0), known(leaves, 4, 1)], [18, None])

    def test_table(self):
        leaves = made(self.TOLD)
        self.assertEqual(table(leaves, 4, 0), [(0, 1, 21), (1, 0, 15), (2, 0, 15), (4, 0, 18)])
        self.assertEqual(table(leaves, 1, 1), [(1, 1, 3)])
        self.assertEqual(table(leaves, 0, 0), [(0, 0, 10)])

    def test_way(self):
        with self.assertRaises(NotKnown) as caught:
            table(made(self.TOLD), 4, 1)
        self.assertEqual(caught.exception.way, [(4, 1), (3, 0)])

    def test_nought_is_a_value(self):
        leaves = made({0: ("full", 0, 1, (0,)), 1: ("still", 1, 1, 1)})
        self.assertEqual(known(leaves, 1, 0), 0)
        self.assertIs(type(known(leaves, 1, 0)), int)

    def test_one_need_twice(self):
        leaves = made({0: ("full", 0, 1, (9, 4)), 1: ("woven", 1, 1, (("mixed", 1, 0, 1, 0), ("mixed", 1, 1, 1, 0)))})
        self.assertEqual(table(leaves, 1, 0), [(0, 0, 9), (1, 0, 9)])
        self.assertEqual(table(leaves, 1, 1), [(0, 0, 9), (0, 1, 4), (1, 1, 6)])

    def test_arguments_by_their_names(self):
        leaves = made(self.TOLD)
        self.assertEqual(known(cell=0, number=4, leaves=leaves), 18)
        self.assertEqual(table(cell=1, number=1, leaves=leaves), [(1, 1, 3)])
        self.assertEqual(needed(numbers=[4], wide=2, leaves=leaves), [0, 1, 2, 3, 4])


class Long(ChainCase):
    def test_two_hundred_leaves_each_on_the_one_ahead(self):
        leaves = [("full", 0, 1, (7, 9))]
        leaves += [("woven", number, 1, (("moved", 1, 1, 3), ("moved", 1, 0, 255))) for number in range(1, 200)]
        told = dict(enumerate(leaves))
        reading = pictures(leaves, 2)
        self.assert_cell(told, 2, 199, 0, reading)
        self.assertEqual(len(table(made(told), 199, 1)), 200)
        self.assertEqual(needed(made(told), 2, [199]), list(range(200)))
        for missing in (0, 1, 100, 198, 199):
            less = {number: leaf for number, leaf in told.items() if number != missing}
            self.assert_cell(less, 2, 199, 1, reading)
            with self.assertRaises(NotKnown) as caught:
                table(made(less), 199, 1)
            self.assertEqual(len(caught.exception.way), 200 - missing)

    def test_sixty_leaves_each_mixed_of_the_two_ahead(self):
        leaves = [("full", 0, 1, (3,)), ("full", 1, 1, (200,))]
        leaves += [("woven", number, 1, (("mixed", 1, 0, 2, 0),)) for number in range(2, 60)]
        told = dict(enumerate(leaves))
        self.assert_cell(told, 1, 59, 0, pictures(leaves, 1))
        del told[0]
        self.assert_cell(told, 1, 59, 0, pictures(leaves, 1))
        self.assertEqual(needed(made(told), 1, [59]), list(range(60)))

    def test_all_cells_of_two_hundred_leaves_in_very_many_ways(self):
        leaves = [("full", 0, 1, tuple(range(16))), ("full", 1, 1, (200,) * 16)]
        leaves += [("woven", number, 1, tuple([("mixed", 1, cell, 2, 15 - cell) for cell in range(16)]))
                   for number in range(2, 200)]
        told = dict(enumerate(leaves))
        self.assert_cell(told, 16, 199, 5, pictures(leaves, 16))


class AskedAgain(ChainCase):
    def test_a_leaf_more_a_leaf_less_another_leaf(self):
        leaves = made({0: ("full", 0, 1, (10,)), 2: ("woven", 2, 1, (("mixed", 1, 0, 2, 0),))})
        self.assertIs(known(leaves, 2, 0), None)
        leaves[1] = leaf_of(("full", 1, 1, (20,)))
        self.assertEqual(known(leaves, 2, 0), 15)
        self.assertEqual(needed(leaves, 1, [2]), [0, 1, 2])
        leaves[1] = leaf_of(("full", 1, 1, (40,)))
        self.assertEqual(known(leaves, 2, 0), 25)
        self.assertEqual(table(leaves, 2, 0), [(0, 0, 10), (1, 0, 40), (2, 0, 25)])
        del leaves[0]
        self.assertIs(known(leaves, 2, 0), None)
        with self.assertRaises(NotKnown) as caught:
            table(leaves, 2, 0)
        self.assertEqual(caught.exception.way, [(2, 0), (0, 0)])
        leaves[2] = leaf_of(("still", 2, 1, 1))
        self.assertEqual(known(leaves, 2, 0), 40)
        self.assertEqual(needed(leaves, 1, [2]), [1, 2])

    def test_the_dict_stays(self):
        told = WrittenOut.TOLD
        leaves = made(told)
        kept = dict(leaves)
        known(leaves, 4, 0), table(leaves, 4, 0), needed(leaves, 2, [4, 3])
        with self.assertRaises(NotKnown):
            table(leaves, 4, 1)
        self.assertEqual(list(leaves), list(kept))
        self.assertTrue(all(leaves[number] is kept[number] for number in kept))
        self.assertEqual({number: leaf.told() for number, leaf in leaves.items()}, told)

    def test_lists_told_changed_by_the_asker(self):
        leaves = made(WrittenOut.TOLD)
        for deed in (lambda: table(leaves, 4, 0), lambda: needed(leaves, 2, [4]), lambda: needed(leaves, 2, [])):
            before = list(deed())
            found = deed()
            found.append(None)
            found[0] = None
            self.assertEqual(deed(), before)
        ways = []
        for turn in range(2):
            with self.assertRaises(NotKnown) as caught:
                table(leaves, 4, 1)
            ways.append(list(caught.exception.way))
            caught.exception.way.clear()
        self.assertEqual(ways[0], ways[1])


class Needed(ChainCase):
    def test_none(self):
        self.assertEqual(needed(made(WrittenOut.TOLD), 2, []), [])
        self.assertEqual(needed({}, 16, []), [])

    def test_numbers_twice_and_in_any_order(self):
        leaves = made(WrittenOut.TOLD)
        self.assertEqual(needed(leaves, 2, [2, 2]), [0, 1, 2])
        self.assertEqual(needed(leaves, 2, [4, 0, 4, 2]), [0, 1, 2, 3, 4])
        self.assertEqual(needed(leaves, 2, [0]), [0])
        self.assertEqual(needed(leaves, 2, [0, 3, 150, 3]), [0, 3, 150])

    def test_numbers_handed_in_stay(self):
        numbers = [4, 0, 4]
        needed(made(WrittenOut.TOLD), 2, numbers)
        self.assertEqual(numbers, [4, 0, 4])

    def test_only_cells_that_are_hung_on(self):
        # Leaf 2 takes of leaf 1 only the cell that hangs on no other leaf.
        leaves = made({
            0: ("full", 0, 1, (1, 2)), 1: ("woven", 1, 1, (("plain", 3), ("moved", 1, 0, 0))),
            2: ("woven", 2, 1, (("moved", 1, 0, 0), ("plain", 0))),
        })
        self.assertEqual(needed(leaves, 2, [2]), [1, 2])
        self.assertEqual(needed(leaves, 2, [1]), [0, 1])

    def test_stills_have_as_many_cells_as_asked(self):
        leaves = made({
            1: ("woven", 1, 1, (("plain", 3), ("plain", 3), ("moved", 1, 0, 0))), 2: ("still", 2, 1, 1),
        })
        self.assertEqual(needed(leaves, 3, [2]), [0, 1, 2])

    def test_by_chance(self):
        for seed in range(60):
            wide, leaves = some_leaves(seed)
            chance = dice(seed + 2000)
            told = {number: leaf for number, leaf in enumerate(leaves) if chance.random() < 0.8}
            numbers = [chance.randrange(len(leaves) + 2) for turn in range(chance.randint(0, 4))]
            right = set()
            for number in numbers:
                for cell in range(wide):
                    right |= {pair[0] for pair in hung_on(told, wide, number, cell)}
            self.assertEqual(needed(made(told), wide, numbers), sorted(right))


if __name__ == "__main__":
    unittest.main()
