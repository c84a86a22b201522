"""Gathering, points 35 to 39, and what point 3 promises of pieces that come in any order."""

import copy
import unittest
from fractions import Fraction

from lanescroll.boxes import box, boxes_in
from lanescroll.errors import (
    NoBytes, NoCell, NoFilm, NoHead, NoLane, NoMoment, NoNumber, NoSeal, NotKnown, NotWhole,
)
from lanescroll.files import write
from lanescroll.films import film_of
from lanescroll.gather import Gather
from tests.byhand import head_box, head_of, index_box, piece_box, pieces_by_hand
from tests.oracle import dice, edit, ends, leaf_at, led, needs, pictures, probes, some_film, some_leaf, told
from tests.plain import PlainGather
from tests.things import no_moments, no_rows, wrong_whole

LEAVES = [
    ("full", 0, 4, (1, 2)), ("woven", 4, 2, (("moved", 1, 1, 255), ("plain", 7))), ("still", 8, 3, 1),
    ("woven", 12, 2, (("mixed", 1, 0, 3, 1), ("plain", 9))),
]
EDITS = [edit(3, 0, 1), edit(1), edit(9, 1, Fraction(1, 2))]
SIMPLE = (10, [("full", 0, 5, (9, 8))], [edit(1, 0, 1)])
FILM = (77, 2, [(2, LEAVES, EDITS), SIMPLE])
HEAD = head_of(FILM)


def single(lane, number, leaf=None, seal=77):
    """The box of a piece of one leaf, that of the film where none is told."""
    return piece_box((seal, lane, number, [FILM[2][lane][1][number] if leaf is None else leaf]))


def gathered(*rows):
    """A gather of the film's seal that took these rows."""
    gather = Gather(77)
    for row in rows:
        gather.take(row)
    return gather


def questions(gather):
    """All that may be asked but take, head and twin, of things that are in order."""
    return [
        lambda: gather.came(0), lambda: gather.clashes(0), lambda: gather.lost(0), lambda: gather.value(0, 0, 0),
        lambda: gather.table(0, 0, 0), lambda: gather.picture(0, 0), lambda: gather.shown(0, (0, 1)),
        lambda: gather.whole(), lambda: gather.film(), lambda: gather.salvage(),
    ]


def wrong_questions(gather):
    """The same, of things that are not."""
    return [
        lambda: gather.came(None), lambda: gather.clashes(-1), lambda: gather.lost(99),
        lambda: gather.value(99, None, None), lambda: gather.table(True, 1, 1), lambda: gather.picture("", ""),
        lambda: gather.shown(8, None), lambda: gather.shown(0, (2, 2)),
    ]


def state(gather):
    """All that a gather of the film's seal with a head tells."""
    found = [gather.head()]
    if gather.head() is None:
        return found
    for lane, (units, count, edits) in enumerate(gather.head()[2]):
        found += [gather.came(lane), gather.clashes(lane), gather.lost(lane)]
        found += [gather.picture(lane, number) for number in range(count)]
        found += [gather.shown(lane, (t, 4)) for t in range(1, 30, 2)]
    return found + [gather.whole(), gather.salvage().told()]


class GatherCase(unittest.TestCase):
    def assert_like(self, gather, plain):
        """The gather tells all that the plain one does."""
        self.assertEqual(gather.head(), plain.head())
        if plain.head() is None:
            for question in questions(gather) + wrong_questions(gather):
                with self.assertRaises(NoHead):
                    question()
            return
        seal, wide, lanes = plain.head()
        for lane, (units, count, edits) in enumerate(lanes):
            self.assertEqual(gather.came(lane), plain.came(lane))
            self.assertEqual(gather.clashes(lane), plain.clashes(lane))
            self.assertEqual(gather.lost(lane), plain.lost(lane))
            for number in range(count):
                self.assertEqual(gather.picture(lane, number), plain.picture(lane, number))
                for cell in range(wide):
                    self.assert_cell(gather, plain, lane, number, cell)
            for t in self.moments(units, edits, plain.leaves(lane)):
                self.assertEqual(gather.shown(lane, told(t)), plain.shown(lane, told(t)))
        self.assertIs(gather.whole(), plain.whole())
        self.assert_films(gather, plain)

    def moments(self, units, edits, leaves):
        """The borders of the edits and moments about them."""
        return probes(ends(edits))

    def assert_cell(self, gather, plain, lane, number, cell):
        self.assertEqual(gather.value(lane, number, cell), plain.value(lane, number, cell))
        rows = plain.rows(lane, number, cell)
        if rows is not None:
            self.assertEqual(gather.table(lane, number, cell), rows)
            return
        with self.assertRaises(NotKnown) as caught:
            gather.table(lane, number, cell)
        way, leaves = caught.exception.way, plain.leaves(lane)
        self.assertEqual(way[0], (number, cell))
        for pair, need in zip(way, way[1:]):
            self.assertIn(need, needs(leaves, plain.head()[1], pair))
        self.assertNotIn(way[-1][0], leaves)

    def assert_films(self, gather, plain):
        if plain.whole():
            self.assert_film(gather.film, plain.told())
        else:
            with self.assertRaises(NotWhole):
                gather.film()
        self.assert_film(gather.salvage, plain.saved())

    def assert_film(self, deed, right):
        """The deed tells the film as told, or is refused as film_of is."""
        try:
            film = film_of(right)
        except NoFilm as refusal:
            with self.assertRaises(NoFilm) as caught:
                deed()
            self.assertEqual((caught.exception.lane, caught.exception.leaf), (refusal.lane, refusal.leaf))
            return
        self.assertEqual(deed(), film)
        self.assertEqual(deed().told(), right)


class Made(GatherCase):
    def test_seals(self):
        for seal in (0, 1, 10 ** 9):
            self.assertIs(Gather(seal=seal).head(), None)
        for wrong in wrong_whole(0, 10 ** 9):
            with self.assertRaises(NoSeal):
                Gather(wrong)

    def test_nothing_came(self):
        self.assert_like(gathered(), PlainGather(77))
        self.assertEqual(Gather(77).take([]), [])

    def test_no_rows(self):
        gather = gathered(head_box(HEAD), single(0, 0))
        before = state(gather)
        for wrong in no_rows() + [single(0, 1) + [None]]:
            with self.assertRaises(NoBytes):
                gather.take(wrong)
        self.assertEqual(state(gather), before)


class Taken(GatherCase):
    def test_places(self):
        head, piece = head_box(HEAD), single(0, 0)
        junk = [0, 0, 1, 9, 9]
        row = junk + head + [5] + piece + piece + junk + single(0, 1, seal=78) + index_box((77, [])) + head + [0]
        first = 5
        second = first + len(head) + 1
        third = second + len(piece)
        last = len(row) - 1 - len(head)
        self.assertEqual(Gather(77).take(row), [first, second, third, last])
        self.assertEqual(Gather(78).take(row=row), [third + len(piece) + 5])
        self.assertEqual(Gather(79).take(row), [])

    def test_other_kinds(self):
        body = boxes_in(single(0, 0))[0][2]
        head_body = boxes_in(head_box(HEAD))[0][2]
        for kind in range(3, 10):
            self.assertEqual(gathered(head_box(HEAD)).take(box(kind, body)), [])
            self.assertEqual(Gather(77).take(box(kind, head_body)), [])
        self.assertEqual(Gather(77).take(box(1, body) + box(2, head_body)), [])
        self.assertEqual(Gather(77).take(box(1, head_body + [0]) + box(2, body + [0]) + box(2, [])), [])

    def test_boxes_parted_over_rows_are_none(self):
        gather = gathered(head_box(HEAD))
        piece = single(0, 0)
        for cut in range(1, len(piece)):
            self.assertEqual(gather.take(piece[:cut]), [])
            self.assertEqual(gather.take(piece[cut:]), [])
        self.assertEqual(gather.came(0), [])
        self.assertEqual(gather.take(piece), [0])
        self.assertEqual(gather.came(0), [0])

    def test_rows_stay(self):
        row = head_box(HEAD) + single(0, 0)
        before = list(row)
        gather = gathered(row)
        self.assertEqual(row, before)
        row.clear()
        self.assertEqual(gather.picture(0, 0), (1, 2))

    def test_each_leaf_behind_each_take(self):
        gather, plain = Gather(77), PlainGather(77)
        for row in [single(0, 2), head_box(HEAD), single(0, 0), single(1, 0), single(0, 3), single(0, 0), single(0, 1)]:
            self.assertEqual(gather.take(row), plain.take(row))
            self.assert_like(gather, plain)
        self.assertEqual(gather.film(), film_of(FILM))


class Heads(GatherCase):
    def test_told(self):
        gather = gathered(head_box(HEAD))
        self.assertEqual(gather.head(), HEAD)
        self.assertEqual([type(gather.head()), type(gather.head()[2]), type(gather.head()[2][0])], [tuple, list, tuple])
        self.assertEqual(gathered(head_box(HEAD), head_box(HEAD), head_box(HEAD) * 2).head(), HEAD)

    def test_unlike_ones(self):
        others = [
            (77, 3) + HEAD[2:], (77, 2, HEAD[2][:1]), (77, 2, HEAD[2][::-1]), (77, 2, [(2, 5, EDITS), HEAD[2][1]]),
            (77, 2, [(3, 4, EDITS), HEAD[2][1]]), (77, 2, [(2, 4, EDITS[:2]), HEAD[2][1]]),
        ]
        for other in others:
            gather = gathered(head_box(HEAD), single(0, 0))
            twin = gather.twin()
            self.assertEqual(gather.take(head_box(other)), [0])
            for row in ([], head_box(HEAD), head_box(other), single(0, 1), head_box(HEAD) * 2):
                gather.take(row)
                self.assertIs(gather.head(), None)
                for question in questions(gather) + wrong_questions(gather):
                    with self.assertRaises(NoHead):
                        question()
            self.assertIs(gather.twin().head(), None)
            self.assertEqual(twin.head(), HEAD)
            self.assertIs(gathered(head_box(HEAD) + head_box(other)).head(), None)

    def test_heads_of_other_seals_are_passed_by(self):
        gather = gathered(head_box((78,) + HEAD[1:]))
        self.assertIs(gather.head(), None)
        gather.take(head_box(HEAD) + head_box((78, 1, [(1, 1, [])])))
        self.assertEqual(gather.head(), HEAD)

    def test_late(self):
        rows = [single(0, number) for number in (3, 1, 0, 2)] + [single(1, 0)]
        gather = gathered(*rows)
        for question in questions(gather):
            with self.assertRaises(NoHead):
                question()
        gather.take(head_box(HEAD))
        self.assertEqual(gather.film(), film_of(FILM))
        self.assertEqual(state(gather), state(gathered(head_box(HEAD), *rows)))

    def test_lists_told_changed_by_the_asker(self):
        gather = gathered(head_box(HEAD), single(0, 0), single(0, 2), single(0, 2, LEAVES[0]))
        before = copy.deepcopy(state(gather))
        head = gather.head()
        head[2][0][2].clear()
        head[2].pop()
        for found in (gather.came(0), gather.clashes(0), gather.lost(0), gather.table(0, 0, 1)):
            self.assertIs(type(found), list)
            found.append(99)
            found[0] = 98
        with self.assertRaises(NotKnown) as caught:
            gather.table(0, 3, 0)
        caught.exception.way.clear()
        gather.salvage().told()[2].clear()
        self.assertEqual(state(gather), before)
        self.assertEqual(gather.table(0, 0, 1), [(0, 1, 2)])


class Coming(GatherCase):
    def test_clashes(self):
        gather = gathered(head_box(HEAD), single(0, 0), single(0, 1))
        self.assertEqual((gather.came(0), gather.clashes(0), gather.lost(0)), ([0, 1], [], [2, 3]))
        gather.take(single(0, 0))
        self.assertEqual((gather.came(0), gather.clashes(0), gather.lost(0)), ([0, 1], [], [2, 3]))
        gather.take(single(0, 0, ("full", 0, 4, (1, 3))))
        self.assertEqual((gather.came(0), gather.clashes(0), gather.lost(0)), ([1], [0], [0, 2, 3]))
        self.assertIs(gather.picture(0, 0), None)
        self.assertEqual(gather.picture(0, 1), (None, 7))
        gather.take(single(0, 0))
        self.assertEqual((gather.came(0), gather.clashes(0), gather.lost(0)), ([1], [0], [0, 2, 3]))
        gather.take(single(0, 0, ("full", 0, 4, (1, 4))))
        self.assertEqual((gather.came(0), gather.clashes(0)), ([1], [0]))

    def test_unlike_ones_that_show_alike_clash(self):
        for other in (("woven", 0, 4, (("plain", 1), ("plain", 2))), ("full", 0, 5, (1, 2)), ("full", 1, 4, (1, 2))):
            gather = gathered(head_box(HEAD) + single(0, 0) + single(0, 0, other))
            self.assertEqual((gather.came(0), gather.clashes(0)), ([], [0]))

    def test_what_does_not_fit_neither_comes_nor_clashes(self):
        wrongs = [("full", 0, 4, (1,)), ("full", 0, 4, (1, 2, 3)), ("still", 0, 4, 2), ("still", 0, 4, 200),
                  ("woven", 0, 4, (("moved", 2, 0, 0), ("plain", 1))),
                  ("woven", 0, 4, (("moved", 1, 2, 0), ("plain", 1))),
                  ("woven", 0, 4, (("mixed", 1, 0, 2, 0), ("plain", 1))), ("woven", 0, 4, (("plain", 1),))]
        for wrong in wrongs:
            gather = gathered(head_box(HEAD))
            self.assertEqual(gather.take(single(0, 1, wrong)), [0])
            self.assertEqual((gather.came(0), gather.clashes(0)), ([], []))
            gather.take(single(0, 1))
            self.assertEqual((gather.came(0), gather.clashes(0)), ([1], []))
            gather.take(single(0, 1, wrong))
            self.assertEqual((gather.came(0), gather.clashes(0)), ([1], []))

    def test_lanes_and_numbers_that_the_head_has_not(self):
        gather = gathered(head_box(HEAD))
        full = ("full", 0, 1, (1, 2))
        for lane, number in ((2, 0), (7, 199), (0, 4), (0, 199), (1, 1)):
            self.assertEqual(gather.take(single(lane, number, full)), [0])
        self.assertEqual(gather.take(piece_box((77, 0, 199, [full] * 200))), [0])
        self.assertEqual([gather.came(0), gather.came(1), gather.clashes(0)], [[], [], []])
        gather.take(piece_box((77, 0, 2, [full] * 5)))
        self.assertEqual([gather.came(0), gather.lost(0)], [[2, 3], [0, 1]])

    def test_clashes_known_when_the_head_comes(self):
        # By a width of one the one leaf fits, by a width of two the other; by none both do.
        rows = [single(0, 0, ("full", 0, 4, (1,))), single(0, 0, ("full", 0, 4, (1, 2)))]
        one = gathered(*rows, head_box((77, 1, [(1, 1, [])])))
        other = gathered(*rows, head_box((77, 2, [(1, 1, [])])))
        self.assertEqual([one.picture(0, 0), other.picture(0, 0)], [(1,), (1, 2)])
        self.assertEqual([one.clashes(0), other.clashes(0)], [[], []])

    def test_no_lane(self):
        gather = gathered(head_box(HEAD))
        for wrong in wrong_whole(0, 1):
            for deed in (
                lambda: gather.came(wrong), lambda: gather.clashes(wrong), lambda: gather.lost(wrong),
                lambda: gather.value(wrong, 0, 0), lambda: gather.value(wrong, None, 0),
                lambda: gather.value(wrong, 0, 99), lambda: gather.table(wrong, 0, 0),
                lambda: gather.table(wrong, 99, 99), lambda: gather.picture(wrong, 0),
                lambda: gather.picture(wrong, 99), lambda: gather.shown(wrong, (0, 1)),
                lambda: gather.shown(wrong, None),
            ):
                with self.assertRaises(NoLane):
                    deed()

    def test_arguments_by_their_names(self):
        gather = gathered(head_box(HEAD), single(0, 0), single(0, 1))
        self.assertEqual([gather.came(lane=0), gather.lost(lane=0), gather.clashes(lane=0)], [[0, 1], [2, 3], []])
        self.assertEqual(gather.value(cell=0, number=1, lane=0), 1)
        self.assertEqual(gather.table(cell=0, number=1, lane=0), [(0, 1, 2), (1, 0, 1)])
        self.assertEqual(gather.picture(number=0, lane=0), (1, 2))
        self.assertEqual(gather.shown(t=(0, 1), lane=0), ("leaf", 0, (1, 2)))


class Values(GatherCase):
    def test_against_the_plain_reading(self):
        gather = gathered(write(film_of(FILM), 1))
        for number, picture in enumerate(pictures(LEAVES, 2)):
            self.assertEqual(gather.picture(0, number), picture)
            self.assertEqual(tuple([gather.value(0, number, cell) for cell in range(2)]), picture)
        self.assertEqual(gather.table(0, 3, 0), [(0, 1, 2), (1, 0, 1), (2, 0, 1), (3, 0, 1)])

    def test_leaves_that_have_not_come(self):
        gather = gathered(head_box(HEAD), single(0, 1), single(0, 3))
        self.assertEqual([gather.picture(0, number) for number in range(4)], [None, (None, 7), None, (None, 9)])
        self.assertEqual([gather.value(0, number, 0) for number in range(4)], [None] * 4)
        self.assertEqual([gather.value(0, number, 1) for number in range(4)], [None, 7, None, 9])
        with self.assertRaises(NotKnown) as caught:
            gather.table(0, 0, 1)
        self.assertEqual(caught.exception.way, [(0, 1)])
        self.assertEqual(gather.table(0, 3, 1), [(3, 1, 9)])

    def test_no_number_ahead_of_no_cell_ahead_of_not_known(self):
        gather = gathered(head_box(HEAD), single(0, 3))
        for lane, count in ((0, 4), (1, 1)):
            for wrong in wrong_whole(0, count - 1):
                for deed in (lambda: gather.value(lane, wrong, 0), lambda: gather.value(lane, wrong, None),
                             lambda: gather.table(lane, wrong, 0), lambda: gather.table(lane, wrong, 99),
                             lambda: gather.picture(lane, wrong)):
                    with self.assertRaises(NoNumber):
                        deed()
        for wrong in wrong_whole(0, 1):
            for number in (0, 3):
                for deed in (gather.value, gather.table):
                    with self.assertRaises(NoCell):
                        deed(0, number, wrong)

    def test_lanes_without_leaves(self):
        gather = gathered(head_box((77, 1, [(1, 0, [edit(1, 0, 1)])])))
        with self.assertRaises(NoNumber):
            gather.picture(0, 0)
        self.assertEqual([gather.came(0), gather.lost(0), gather.whole()], [[], [], True])
        self.assertEqual(gather.shown(0, (0, 1)), ("blank",))
        self.assertEqual(gather.film(), film_of((77, 1, [(1, [], [edit(1, 0, 1)])])))


class Shown(GatherCase):
    def test_written_out(self):
        gather = gathered(head_box(HEAD), single(0, 1))
        self.assertEqual(gather.shown(0, (0, 1)), ("unknown",))
        self.assertEqual(gather.shown(0, (2, 1)), ("leaf", 1, (None, 7)))
        self.assertEqual(gather.shown(0, (3, 1)), ("blank",))
        self.assertEqual(gather.shown(0, (99, 1)), ("blank",))
        self.assertEqual(gather.shown(0, (8, 1)), ("unknown",))
        for number in (0, 2, 3):
            gather.take(single(0, number))
        self.assertEqual(gather.shown(0, (0, 1)), ("leaf", 0, (1, 2)))
        # Nothing is lost of the lane, so where no leaf is shown there is none.
        self.assertEqual(gather.shown(0, (8, 1)), ("blank",))
        self.assertEqual(gather.shown(1, (0, 1)), ("unknown",))

    def test_leaves_shown_together(self):
        gather = gathered(head_box((77, 1, [(1, 3, [edit(9, 0, 1)])])))
        gather.take(single(0, 2, ("full", 0, 9, (2,))))
        self.assertEqual(gather.shown(0, (5, 1)), ("leaf", 2, (2,)))
        gather.take(single(0, 1, ("full", 5, 2, (1,))))
        self.assertEqual([gather.shown(0, (t, 1))[1] for t in range(9)], [2] * 5 + [1] * 2 + [2] * 2)
        gather.take(single(0, 0, ("full", 6, 2, (0,))))
        self.assertEqual([gather.shown(0, (t, 1))[1] for t in range(9)], [2] * 5 + [1] + [0] * 2 + [2])

    def test_no_moment(self):
        gather = gathered(head_box(HEAD))
        for wrong in no_moments():
            with self.assertRaises(NoMoment):
                gather.shown(0, wrong)

    def test_moments_of_many_figures(self):
        gather = gathered(write(film_of(FILM)))
        little = Fraction(1, 10 ** 2000)
        self.assertEqual(gather.shown(0, told(2 - little))[1], 0)
        self.assertEqual(gather.shown(0, told(3 - little))[1], 1)
        self.assertEqual(gather.shown(0, told(3 + little)), ("blank",))


class Films(GatherCase):
    def test_whole(self):
        gather = gathered(head_box(HEAD))
        for lane, number in ((0, 1), (0, 3), (1, 0), (0, 0), (0, 2)):
            self.assertIs(gather.whole(), False)
            with self.assertRaises(NotWhole):
                gather.film()
            gather.take(single(lane, number))
        self.assertIs(gather.whole(), True)
        self.assertEqual(gather.film(), film_of(FILM))
        gather.take(single(1, 0, ("full", 0, 5, (9, 9))))
        self.assertIs(gather.whole(), False)
        with self.assertRaises(NotWhole):
            gather.film()

    def test_salvage(self):
        gather = gathered(head_box(HEAD), single(0, 3), single(0, 0), single(0, 2))
        edits = HEAD[2][1][2]
        self.assertEqual(gather.salvage().told(), (77, 2, [(2, [("full", 0, 4, (1, 2))], EDITS), (10, [], edits)]))
        gather.take(single(0, 1))
        right = [("full",) + leaf[1:3] + (picture,) for leaf, picture in zip(LEAVES, pictures(LEAVES, 2))]
        self.assertEqual(gather.salvage().told(), (77, 2, [(2, right, EDITS), (10, [], edits)]))

    def test_leaves_shown_together(self):
        head = (77, 1, [(1, 0, []), (1, 4, [])])
        rows = [single(1, number, leaf) for number, leaf in enumerate(
            [("full", 0, 2, (1,)), ("full", 9, 2, (1,)), ("full", 20, 2, (1,)), ("full", 10, 2, (1,))])]
        gather = gathered(head_box(head), *rows)
        for deed in (gather.film, gather.salvage):
            with self.assertRaises(NoFilm) as caught:
                deed()
            self.assertEqual((caught.exception.lane, caught.exception.leaf), (1, 3))
        # Of what would be salvaged the leaves are counted anew.
        gather = gathered(head_box(head), rows[1], rows[3])
        with self.assertRaises(NotWhole):
            gather.film()
        with self.assertRaises(NoFilm) as caught:
            gather.salvage()
        self.assertEqual((caught.exception.lane, caught.exception.leaf), (1, 1))
        # A leaf of whose picture not all is known is not in the way.
        still = single(1, 3, ("still", 10, 2, 3))
        self.assertEqual(gathered(head_box(head), rows[1], still).salvage().many(1), 1)

    def test_the_largest_lanes(self):
        leaves = [("full", 0, 1, tuple(range(16))), ("full", 1, 1, (200,) * 16)]
        leaves += [("woven", number, 1, tuple([("mixed", 1, cell, 2, 15 - cell) for cell in range(16)]))
                   for number in range(2, 200)]
        told_film = (77, 16, [(1, leaves, [edit(200, 0, 1)])] * 8)
        film = film_of(told_film)
        gather = gathered(write(film))
        self.assertEqual(gather.film(), film)
        right = [("full", number, 1, picture) for number, picture in enumerate(pictures(leaves, 16))]
        self.assertEqual(gather.salvage().told(), (77, 16, [(1, right, [edit(200, 0, 1)])] * 8))


class Twins(GatherCase):
    def test_twins_apart(self):
        rows = [head_box(HEAD), single(0, 0), single(0, 1), single(0, 1, LEAVES[0]), single(0, 2), single(1, 0),
                single(0, 3), head_box((77, 1, [(1, 1, [])]))]
        for cut in range(len(rows) + 1):
            gather = gathered(*rows[:cut])
            state(gather)
            twin = gather.twin()
            self.assertIs(type(twin), Gather)
            self.assertEqual(state(twin), state(gathered(*rows[:cut])))
            for row in rows[cut:]:
                twin.take(row)
            self.assertEqual(state(gather), state(gathered(*rows[:cut])))
            self.assertEqual(state(twin), state(gathered(*rows)))
            other = gathered(*rows[:cut])
            kept = other.twin()
            for row in rows[cut:]:
                other.take(row)
            self.assertEqual(state(kept), state(gathered(*rows[:cut])))

    def test_twins_of_twins(self):
        gather = gathered(single(0, 0))
        twin = gather.twin().twin()
        twin.take(head_box(HEAD))
        self.assertIs(gather.head(), None)
        self.assertEqual(twin.came(0), [0])

    def test_two_gathers_by_turns(self):
        other_film = (78, 2, [SIMPLE])
        one, other = Gather(77), Gather(78)
        rows = write(film_of(FILM), 1), write(film_of(other_film), 1)
        for row in rows:
            one.take(row)
            other.take(row)
        self.assertEqual([one.film().told(), other.film().told()], [FILM, other_film])
        same = Gather(77)
        self.assertIs(same.head(), None)


class ByChance(GatherCase):
    def some_boxes(self, chance, told_film):
        """Boxes of a film as told, of its neighbours, and of what doesn't fit, by chance."""
        seal, wide, lanes = told_film
        found = [piece_box(piece) for piece in pieces_by_hand(told_film, chance.randint(1, 3))]
        for turn in range(chance.choice((0, 0, 1, 3))):
            lane = chance.randrange(len(lanes) + 1)
            number = chance.randrange(8)
            leaf = some_leaf(chance, max(number, 1), chance.choice((wide, wide, 3)), chance.randrange(9), 2)
            found.append(piece_box((chance.choice((seal, seal, seal + 1)), lane, number, [leaf])))
        found += [head_box(head_of(told_film))] * chance.choice((1, 1, 2))
        found += [box for box in found if chance.random() < 0.2]
        found = [box for box in found if chance.random() < 0.9]
        if chance.random() < 0.05:
            found.append(head_box((seal, wide, [(1, 1, [])])))
        found.append(index_box((seal, [])))
        chance.shuffle(found)
        return found

    def some_rows(self, chance, boxes):
        """The boxes in a few rows, perhaps with other bytes between, perhaps torn."""
        rows, row = [], []
        for box_row in boxes:
            row = row + [chance.choice((0, 1, 7, 255)) for byte in range(chance.choice((0, 0, 2)))] + box_row
            if chance.random() < 0.2:
                at = chance.randrange(len(row))
                row = row[:at] + [chance.randrange(256)] * chance.randrange(3) + row[at + chance.randrange(3):]
            if chance.random() < 0.3:
                rows, row = rows + [row], []
        return rows + [row]

    def test_all_against_the_plain_one(self):
        for seed in range(80):
            chance = dice(seed)
            told_film = some_film(seed, 2, 6)
            if told_film[1] > 3:
                continue
            gather, plain = Gather(told_film[0]), PlainGather(told_film[0])
            for row in self.some_rows(chance, self.some_boxes(chance, told_film)):
                before = list(row)
                self.assertEqual(gather.take(row), plain.take(row))
                self.assertEqual(row, before)
                self.assert_like(gather, plain)
            self.assert_like(gather.twin(), plain)

    def test_pieces_of_a_film_tell_what_the_film_does_or_nothing(self):
        for seed in range(40):
            chance = dice(seed)
            told_film = some_film(seed, 3, 8)
            film = film_of(told_film)
            row = write(film, chance.randint(1, 4))
            for turn in range(chance.randint(0, 3)):
                at = chance.randrange(len(row))
                row[at:at + chance.randrange(40)] = [chance.randrange(256) for byte in range(chance.randrange(9))]
            gather = Gather(told_film[0])
            gather.take(row)
            if gather.head() is None:
                continue
            for lane, told_lane in enumerate(told_film[2]):
                for number in range(film.many(lane)):
                    picture = gather.picture(lane, number)
                    if picture is not None:
                        for value, right in zip(picture, film.picture(lane, number)):
                            self.assertIn(value, (None, right))
                for t in probes(ends(told_lane[2])):
                    shown, right = gather.shown(lane, told(t)), film.shown(lane, told(t))
                    x = led(told_lane[2], t)
                    number = None if x is None else leaf_at(told_lane, x)
                    if right is not None and number in gather.came(lane):
                        self.assertEqual(shown, ("leaf", number, gather.picture(lane, number)))
                    elif right is None:
                        self.assertEqual(shown[0], "unknown" if x is not None and gather.lost(lane) else "blank")
                    else:
                        self.assertEqual(shown, ("unknown",))

    def test_any_order_and_twice(self):
        for seed in range(20):
            chance = dice(seed)
            told_film = some_film(seed, 3, 6)
            boxes = [head_box(head_of(told_film))]
            for many in (1, 2, 3):
                boxes += [piece_box(piece) for piece in pieces_by_hand(told_film, many)]
            for turn in range(3):
                chance.shuffle(boxes)
                gather = Gather(told_film[0])
                for row in boxes:
                    self.assertEqual(gather.take(row), [0])
                self.assertEqual(gather.film().told(), told_film)

    def test_handed_in_things_stay(self):
        head = copy.deepcopy(HEAD)
        gather = gathered(head_box(head), *[single(0, number) for number in range(4)], single(1, 0))
        film = gather.film()
        gather.take(single(0, 0, ("full", 0, 4, (9, 9))))
        self.assertEqual(film.told(), FILM)
        self.assertEqual(gather.clashes(0), [0])


if __name__ == "__main__":
    unittest.main()
