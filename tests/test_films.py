"""Films, points 15 to 19."""

import copy
import unittest
from fractions import Fraction

from lanescroll.edits import part
from lanescroll.errors import NoFilm, NoLane, NoMoment, NoNumber
from lanescroll.films import Film, film_of
from tests.oracle import edit, ends, leaf_at, led, pictures, probes, some_film, told, worth
from tests.things import Touchy, anything, no_moments, wrong_whole

FULL = ("full", 0, 4, (1, 2))
STILL = ("still", 4, 2, 1)
WOVEN = ("woven", 8, 3, (("moved", 2, 1, 255), ("mixed", 1, 0, 2, 1)))
LEAVES = [FULL, STILL, WOVEN]
EDITS = [edit(3, 0, 1), edit(1), edit(2, 1, Fraction(1, 2))]
LANE = (2, LEAVES, EDITS)
SIMPLE = (10, [("full", 0, 5, (9, 8))], [edit(1, 0, 1)])
FILM = (77, 2, [LANE, SIMPLE])


def lane_with(place, part):
    """The lane, with another part in one place."""
    return LANE[:place] + (part,) + LANE[place + 1:]


def film_with(place, part):
    """The film, with another part in one place."""
    return FILM[:place] + (part,) + FILM[place + 1:]


def apart(many, wide=1):
    """So many Full leaves, one behind the other."""
    return [("full", number, 1, (number % 256,) * wide) for number in range(many)]


class FilmCase(unittest.TestCase):
    def assert_none(self, thing, lane=None, leaf=None):
        with self.assertRaises(NoFilm) as caught:
            film_of(thing)
        self.assertEqual((caught.exception.lane, caught.exception.leaf), (lane, leaf))

    def assert_lane_none(self, lane, leaf=None):
        """The lane is none as the only one, as the last one, and ahead of another one that is none."""
        self.assert_none((77, 2, [lane]), 0, leaf)
        self.assert_none((77, 2, [LANE, SIMPLE, lane]), 2, leaf)
        self.assert_none((77, 2, [SIMPLE, lane, None, LANE]), 1, leaf)


class Made(FilmCase):
    def test_told(self):
        film = film_of(FILM)
        self.assertIs(type(film), Film)
        self.assertEqual(film.told(), FILM)
        self.assertEqual((film.seal, film.wide, len(film)), (77, 2, 2))
        self.assertIs(type(film.told()), tuple)

    def test_by_chance(self):
        for seed in range(60):
            told_film = some_film(seed)
            film = film_of(told=told_film)
            self.assertEqual(film.told(), told_film)
            self.assertEqual(film, film_of(film.told()))

    def test_frame_that_is_none(self):
        for thing in anything() + [list(FILM), FILM[:2], FILM + (1,), FILM + ([],), (FILM,), [FILM]]:
            self.assert_none(thing)

    def test_seals(self):
        for seal in (0, 10 ** 9):
            self.assertEqual(film_of(film_with(0, seal)).seal, seal)
        for wrong in wrong_whole(0, 10 ** 9):
            self.assert_none(film_with(0, wrong))

    def test_widths(self):
        for wide in range(1, 17):
            film = film_of((0, wide, [(1, apart(2, wide), [])]))
            self.assertEqual(film.wide, wide)
        for wrong in wrong_whole(1, 16):
            self.assert_none(film_with(1, wrong))

    def test_how_many_lanes(self):
        for many in range(1, 9):
            self.assertEqual(len(film_of((0, 2, [LANE] * many))), many)
        for many in (0, 9, 10, 300, 100000):
            self.assert_none((0, 2, [LANE] * many))
            self.assert_none((0, 2, [None] * many) if many != 0 else (0, 2, []))

    def test_lanes_that_are_no_list(self):
        for wrong in [tuple(FILM[2]), {0: LANE}, LANE, None, "", 1, Touchy()]:
            self.assert_none(film_with(2, wrong))

    def test_the_frame_comes_ahead_of_the_lanes(self):
        wrong = (0, LEAVES, EDITS)
        self.assert_none((-1, 2, [wrong]))
        self.assert_none((1, 17, [wrong]))
        self.assert_none((1, 2, [wrong] * 9))
        self.assert_none((1, 2, [wrong]), 0)


class Lanes(FilmCase):
    def test_frames_that_are_none(self):
        for wrong in anything() + [list(LANE), LANE[:2], LANE + (1,), (LANE,), [LANE]]:
            self.assert_lane_none(wrong)

    def test_units(self):
        for units in (1, 10 ** 6):
            self.assertEqual(film_of((0, 2, [lane_with(0, units)])).units(0), units)
        for wrong in wrong_whole(1, 10 ** 6):
            self.assert_lane_none(lane_with(0, wrong))

    def test_leaves_that_are_no_list(self):
        for wrong in [tuple(LEAVES), {0: FULL}, FULL, None, "", 1, Touchy()]:
            self.assert_lane_none(lane_with(1, wrong))

    def test_how_many_leaves(self):
        for many in (0, 1, 199, 200):
            film = film_of((0, 1, [(1, apart(many), [])]))
            self.assertEqual(film.many(0), many)
        for many in (201, 202, 300):
            self.assert_none((0, 1, [(1, apart(many), [])]), 0)
            self.assert_none((0, 1, [(1, [None] * many, [])]), 0)

    def test_units_and_the_list_come_ahead_of_the_leaves(self):
        self.assert_lane_none((0, [None], EDITS))
        self.assert_lane_none((1, (None,), EDITS))
        self.assert_lane_none((1, [None] * 201, EDITS))
        self.assert_lane_none((1, [None], EDITS), 0)

    def test_leaves_that_are_none_at_any_place(self):
        for at in range(4):
            for wrong in anything() + [list(FULL), FULL[:3], ("full", 50, 0, (1, 2)), ("still", 50, 1, 0),
                                       ("woven", 50, 1, (("plain", 1), ("plain", 256)))]:
                leaves = LEAVES[:at] + [wrong] + LEAVES[at:]
                self.assert_lane_none(lane_with(1, leaves), at)

    def test_leaves_that_do_not_fit(self):
        for wrong in (
            ("full", 50, 1, (1,)), ("full", 50, 1, (1, 2, 3)), ("still", 50, 1, 4), ("still", 50, 1, 200),
            ("woven", 50, 1, (("plain", 1),)), ("woven", 50, 1, (("plain", 1),) * 3),
            ("woven", 50, 1, (("plain", 1), ("moved", 4, 0, 0))), ("woven", 50, 1, (("moved", 1, 2, 0), ("plain", 1))),
            ("woven", 50, 1, (("mixed", 1, 0, 4, 0), ("plain", 1))),
            ("woven", 50, 1, (("mixed", 1, 0, 1, 2), ("plain", 1))),
        ):
            self.assert_lane_none(lane_with(1, LEAVES + [wrong]), 3)
            self.assert_lane_none(lane_with(1, LEAVES + [wrong, None]), 3)
        self.assertEqual(film_of((0, 2, [lane_with(1, LEAVES + [("still", 50, 1, 3)])])).many(0), 4)
        self.assert_lane_none(lane_with(1, [STILL]), 0)

    def test_two_leaves_at_one_moment(self):
        first = ("full", 10, 5, (1, 2))
        for begin, span, together in (
            (10, 5, True), (9, 1, False), (9, 2, True), (15, 1, False), (14, 1, True), (0, 10, False), (0, 11, True),
            (0, 100, True), (12, 1, True), (10, 1, True), (14, 100, True), (15, 100, False), (11, 3, True),
        ):
            for one, other in ((first, ("full", begin, span, (3, 4))), (("full", begin, span, (3, 4)), first)):
                lane = (3, [one, ("full", 1000, 1, (0, 0)), other], [])
                with self.subTest(one=one, other=other):
                    if together:
                        self.assert_lane_none(lane, 2)
                    else:
                        self.assertEqual(film_of((0, 2, [lane])).many(0), 3)

    def test_leaves_in_any_order_of_time(self):
        for begins in ((0, 1, 2), (2, 1, 0), (1, 2, 0), (1, 0, 2)):
            leaves = [("full", begin, 1, (begin, 0)) for begin in begins]
            film = film_of((0, 2, [(1, leaves, [])]))
            self.assertEqual([film.leaf_at(0, (x, 1)) for x in begins], [0, 1, 2])
            for begin in begins:
                self.assert_lane_none((1, leaves + [("full", begin, 1, (0, 0))], []), 3)

    def test_the_first_leaf_at_fault_is_told(self):
        clash = ("full", 1, 1, (1, 2))
        self.assert_lane_none(lane_with(1, [FULL, clash, None]), 1)
        self.assert_lane_none(lane_with(1, [FULL, None, clash]), 1)
        self.assert_lane_none(lane_with(1, [FULL, STILL, clash, ("still", 50, 1, 9)]), 2)
        self.assert_lane_none(lane_with(1, [FULL, ("still", 50, 1, 2), clash]), 1)

    def test_the_greatest_begin_and_span(self):
        leaves = [("full", 10 ** 9, 10 ** 9, (1,)), ("full", 0, 10 ** 9, (2,))]
        film = film_of((0, 1, [(10 ** 6, leaves, [])]))
        self.assertEqual(film.leaf_at(0, (1000, 1)), 0)
        self.assertEqual(film.leaf_at(0, told(Fraction(10 ** 9 * 2 - 1, 10 ** 6))), 0)
        self.assertIs(film.leaf_at(0, (2000, 1)), None)
        self.assertEqual(film.leaf_at(0, told(1000 - Fraction(1, 10 ** 40))), 1)


class LaneEdits(FilmCase):
    def test_how_many(self):
        for many in (0, 1, 59, 60):
            edits = [edit(1, number, 1) for number in range(many)]
            self.assertEqual(film_of((0, 2, [lane_with(2, edits)])).edits(0), edits)
        for many in (61, 62, 300):
            self.assert_lane_none(lane_with(2, [edit(1, 0, 1)] * many))

    def test_edits_that_are_none(self):
        for wrong in [tuple(EDITS), None, EDITS[0], [None], EDITS + [()], [((0, 1), None, (0, 1))],
                      [((1, 1), None, (1, 1))], [((2, 2), (0, 1), (1, 1))], [list(EDITS[0])]]:
            self.assert_lane_none(lane_with(2, wrong))
        for wrong in anything():
            if type(wrong) is not list or len(wrong) > 0:
                self.assert_lane_none(lane_with(2, wrong))

    def test_tops_and_bottoms(self):
        bound = 10 ** 30
        for number, right in ((bound, True), (bound - 1, True), (bound + 1, False), (bound * 10 + 1, False)):
            for wanted in (
                edit(number, 0, 1), edit(Fraction(1, number), 0, 1), edit(number), edit(Fraction(1, number)),
                edit(1, number, 1), edit(1, Fraction(1, number), 1),
                edit(1, 0, number), edit(1, 0, Fraction(1, number)),
            ):
                for edits in ([wanted], EDITS + [wanted], [wanted] + EDITS):
                    with self.subTest(number=number, wanted=wanted):
                        if right:
                            self.assertEqual(film_of((0, 2, [lane_with(2, edits)])).edits(0), edits)
                        else:
                            self.assert_lane_none(lane_with(2, edits))

    def test_edits_are_looked_at_behind_the_leaves(self):
        self.assert_lane_none((2, [FULL, None], None), 1)
        self.assert_lane_none((2, [FULL, FULL], [edit(10 ** 31)]), 1)
        self.assert_lane_none((2, [FULL], None))
        self.assert_none((0, 2, [LANE, (2, LEAVES, None), (2, [None], EDITS)]), 1)


class Kept(FilmCase):
    def test_lists_handed_in_changed_behind_the_call(self):
        handed = copy.deepcopy(FILM)
        film = film_of(handed)
        film.picture(0, 0)
        handed[2][0][1][0] = ("full", 0, 4, (99, 99))
        handed[2][0][1].pop()
        handed[2][0][2].append(edit(1))
        handed[2][1][2][0] = edit(9, 9, 9)
        handed[2].pop()
        self.assertEqual(film.told(), FILM)
        self.assertEqual(film.read(0), pictures(LEAVES, 2))
        self.assertEqual(film.length(), (6, 1))

    def test_lists_handed_in_stay(self):
        handed = copy.deepcopy(FILM)
        film_of(handed)
        self.assertEqual(handed, FILM)
        wrong = (7, 2, [(2, list(LEAVES), list(EDITS)), (2, [FULL, FULL], list(EDITS))])
        before = copy.deepcopy(wrong)
        self.assert_none(wrong, 1, 1)
        self.assertEqual(wrong, before)

    def test_lists_told_changed_by_the_asker(self):
        film = film_of(FILM)
        seal, wide, lanes = film.told()
        lanes[0][1][0] = None
        lanes[0][1].pop()
        lanes[0][2].clear()
        lanes.pop()
        film.edits(0).append(None)
        film.edits(0)[0] = None
        film.read(0)[0] = None
        film.read(0).clear()
        self.assertEqual(film.told(), FILM)
        self.assertEqual(film.edits(0), EDITS)
        self.assertEqual(film.read(0), pictures(LEAVES, 2))
        self.assertEqual(film.picture(0, 0), (1, 2))

    def test_two_films_of_one_told_film(self):
        one, other = film_of(FILM), film_of(FILM)
        one.told()[2].clear()
        self.assertEqual(one, other)
        self.assertEqual(other.told(), FILM)


class Alike(FilmCase):
    def test_alike(self):
        self.assertTrue(film_of(FILM) == film_of(copy.deepcopy(FILM)))
        self.assertFalse(film_of(FILM) != film_of(copy.deepcopy(FILM)))
        one, other = film_of(FILM), film_of(FILM)
        one.read(0)
        self.assertTrue(one == other)
        self.assertIs(one == other, True)

    def test_unlike(self):
        others = [
            (78, 2, FILM[2]), (77, 2, FILM[2][:1]), (77, 2, FILM[2][::-1]), (77, 2, [SIMPLE] + FILM[2]),
            (77, 2, [lane_with(0, 3), SIMPLE]), (77, 2, [lane_with(1, LEAVES[:2]), SIMPLE]),
            (77, 2, [lane_with(2, EDITS[:2]), SIMPLE]), (77, 2, [lane_with(2, EDITS + [edit(1)]), SIMPLE]),
            (77, 2, [lane_with(1, [("full", 0, 4, (1, 3))] + LEAVES[1:]), SIMPLE]),
        ]
        for other in others:
            self.assertTrue(film_of(FILM) != film_of(other))
            self.assertFalse(film_of(FILM) == film_of(other))
        one = film_of((1, 1, [(1, [("full", 0, 1, (1,))], [])]))
        self.assertFalse(one == film_of((1, 1, [(1, [("woven", 0, 1, (("plain", 1),))], [])])))

    def test_things_that_are_no_films(self):
        film = film_of(FILM)
        for thing in anything():
            if type(thing) is not Touchy:
                self.assertIs(film == thing, False)
                self.assertIs(film != thing, True)
        self.assertIs(film == FILM, False)


class Asked(FilmCase):
    def test_lanes_and_leaves(self):
        film = film_of(FILM)
        self.assertEqual([film.units(0), film.units(1)], [2, 10])
        self.assertEqual([film.many(0), film.many(1)], [3, 1])
        self.assertEqual([film.edits(0), film.edits(1)], [EDITS, SIMPLE[2]])
        self.assertEqual([film.told_leaf(0, number) for number in range(3)], LEAVES)
        self.assertEqual(film.told_leaf(1, 0), SIMPLE[1][0])

    def test_no_lane(self):
        film = film_of(FILM)
        for wrong in wrong_whole(0, 1):
            for deed in (
                lambda: film.units(wrong), lambda: film.many(wrong), lambda: film.edits(wrong),
                lambda: film.read(wrong), lambda: film.told_leaf(wrong, 0), lambda: film.told_leaf(wrong, 99),
                lambda: film.told_leaf(wrong, None), lambda: film.picture(wrong, 0), lambda: film.picture(wrong, -1),
                lambda: film.leaf_at(wrong, (0, 1)), lambda: film.leaf_at(wrong, None),
                lambda: film.shown(wrong, (0, 1)), lambda: film.shown(wrong, (2, 2)),
            ):
                with self.assertRaises(NoLane):
                    deed()

    def test_no_number(self):
        film = film_of(FILM + ())
        for lane, many in ((0, 3), (1, 1)):
            for wrong in wrong_whole(0, many - 1):
                for deed in (film.told_leaf, film.picture):
                    with self.assertRaises(NoNumber):
                        deed(lane, wrong)
        empty = film_of((0, 1, [(1, [], [])]))
        for deed in (empty.told_leaf, empty.picture):
            with self.assertRaises(NoNumber):
                deed(0, 0)

    def test_no_moment(self):
        film = film_of(FILM)
        for wrong in no_moments():
            for deed in (film.leaf_at, film.shown):
                for lane in (0, 1):
                    with self.assertRaises(NoMoment):
                        deed(lane, wrong)

    def test_length(self):
        self.assertEqual(film_of(FILM).length(), (6, 1))
        self.assertEqual(film_of((0, 1, [(1, [], [])])).length(), (0, 1))
        lanes = [(1, [], [edit(1)]), (1, [], [edit(Fraction(1, 3), 0, 1), edit(Fraction(5, 6))]), (1, [], [])]
        self.assertEqual(film_of((0, 1, lanes)).length(), (7, 6))
        self.assertEqual(film_of((0, 1, lanes[::-1])).length(), (7, 6))

    def test_arguments_by_their_names(self):
        film = film_of(told=FILM)
        self.assertEqual(film.units(lane=1), 10)
        self.assertEqual(film.many(lane=0), 3)
        self.assertEqual(film.edits(lane=0), EDITS)
        self.assertEqual(film.told_leaf(number=1, lane=0), STILL)
        self.assertEqual(film.read(lane=1), [(9, 8)])
        self.assertEqual(film.picture(number=0, lane=1), (9, 8))
        self.assertEqual(film.leaf_at(x=(4, 1), lane=0), 2)
        self.assertEqual(film.shown(t=(0, 1), lane=1), (0, (9, 8)))


class Reading(FilmCase):
    def test_written_out(self):
        film = film_of(FILM)
        self.assertEqual(film.read(0), [(1, 2), (1, 2), (1, 1)])
        self.assertEqual([film.picture(0, number) for number in range(3)], film.read(0))
        self.assertIs(type(film.read(0)), list)
        self.assertIs(type(film.picture(0, 1)), tuple)
        self.assertEqual(film_of((0, 1, [(1, [], [])])).read(0), [])

    def test_by_chance(self):
        for seed in range(80):
            told_film = some_film(seed, 3, 12)
            film = film_of(told_film)
            for lane, (units, leaves, edits) in enumerate(told_film[2]):
                right = pictures(leaves, told_film[1])
                self.assertEqual([film.picture(lane, number) for number in range(len(leaves))], right)
                self.assertEqual(film.read(lane), right)

    def test_two_hundred_leaves_each_on_the_one_ahead(self):
        leaves = [("full", 0, 1, (7, 9))]
        leaves += [("woven", number, 1, (("moved", 1, 1, 3), ("moved", 1, 0, 255))) for number in range(1, 200)]
        film = film_of((0, 2, [(1, leaves, [])]))
        self.assertEqual(film.read(0), pictures(leaves, 2))
        self.assertEqual(film.picture(0, 199), pictures(leaves, 2)[199])
        stills = [("full", 0, 1, (7, 9))] + [("still", number, 1, 1) for number in range(1, 200)]
        self.assertEqual(film_of((0, 2, [(1, stills, [])])).picture(0, 199), (7, 9))

    def test_one_leaf_twice(self):
        leaves = [("full", 0, 1, (11, 20)), ("woven", 1, 1, (("mixed", 1, 0, 1, 0), ("mixed", 1, 0, 1, 1)))]
        self.assertEqual(film_of((0, 2, [(1, leaves, [])])).read(0), [(11, 20), (11, 15)])

    def test_very_many_ways(self):
        leaves = [("full", 0, 1, (3,) * 16), ("full", 1, 1, (200,) * 16)]
        leaves += [("woven", number, 1, tuple([("mixed", 1, cell, 2, 15 - cell) for cell in range(16)]))
                   for number in range(2, 200)]
        film = film_of((0, 16, [(1, leaves, [])]))
        self.assertEqual(film.picture(0, 199), pictures(leaves, 16)[199])
        self.assertEqual(film.read(0), pictures(leaves, 16))

    def test_the_farthest_back(self):
        leaves = apart(199) + [("still", 199, 1, 199)]
        film = film_of((0, 1, [(1, leaves, [])]))
        self.assertEqual(film.picture(0, 199), (0,))
        self.assert_none((0, 1, [(1, apart(199) + [("still", 199, 1, 200)], [])]), 0, 199)


class Shown(FilmCase):
    def test_written_out(self):
        film = film_of(FILM)
        self.assertEqual([film.leaf_at(0, told(Fraction(x, 4))) for x in range(0, 26)],
                         [0] * 8 + [1] * 4 + [None] * 4 + [2] * 6 + [None] * 4)
        self.assertEqual(film.shown(0, (0, 1)), (0, (1, 2)))
        self.assertEqual(film.shown(0, (2, 1)), (1, (1, 2)))
        self.assertIs(film.shown(0, (3, 1)), None)
        self.assertEqual(film.shown(0, (4, 1)), (0, (1, 2)))
        self.assertIs(film.shown(0, (6, 1)), None)
        self.assertIs(film.shown(1, (1, 2)), None)
        self.assertEqual(film.shown(1, (49, 100)), (0, (9, 8)))

    def test_begins_ends_a_little_ahead_and_between(self):
        for seed in range(60):
            told_film = some_film(seed)
            film = film_of(told_film)
            for lane, (units, leaves, edits) in enumerate(told_film[2]):
                points = [Fraction(0)]
                for kind, begin, span, held in leaves:
                    points += [Fraction(begin, units), Fraction(begin + span, units)]
                for x in probes(points):
                    self.assertEqual(film.leaf_at(lane, told(x)), leaf_at(told_film[2][lane], x))

    def test_shown_by_chance(self):
        for seed in range(60):
            told_film = some_film(seed)
            film = film_of(told_film)
            for lane, told_lane in enumerate(told_film[2]):
                right = pictures(told_lane[1], told_film[1])
                for t in probes(ends(told_lane[2])):
                    x = led(told_lane[2], t)
                    number = None if x is None else leaf_at(told_lane, x)
                    self.assertEqual(film.shown(lane, told(t)), None if number is None else (number, right[number]))

    def test_moments_of_many_figures(self):
        edits = [edit(Fraction(1, 10 ** 29 + 2 * k + 1), Fraction(k, 2), Fraction(1, 10 ** 29 + k)) for k in range(60)]
        film = film_of((0, 1, [(2, apart(60), edits)]))
        for t in ends(edits)[:-1]:
            self.assertEqual(film.shown(0, told(t))[0], led(edits, t) * 2 // 1)
        end = film.length()
        self.assertEqual(end, told(ends(edits)[-1]))
        self.assertIs(film.shown(0, end), None)
        half = told(worth(end) / 2)
        self.assertEqual(film.shown(0, half), (led(edits, worth(half)) * 2 // 1, ((led(edits, worth(half)) * 2 // 1),)))
        self.assertEqual(part(edits, half, end)[0][1], told(led(edits, worth(half))))

    def test_form(self):
        shown = film_of(FILM).shown(0, (0, 1))
        self.assertIs(type(shown), tuple)
        self.assertIs(type(shown[1]), tuple)


if __name__ == "__main__":
    unittest.main()
