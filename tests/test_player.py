"""Playing, points 48 and 49, and what point 3 promises of it."""

import unittest
from fractions import Fraction

from lanescroll.errors import NoLane, NoMoment, NoSpan
from lanescroll.films import film_of
from lanescroll.player import Player, changes
from tests.oracle import dice, edit, leaf_at, led, probes, some_film, told, turning_points, worth
from tests.things import no_moments, wrong_whole

FULLS = [("full", 0, 2, (1,)), ("full", 2, 2, (2,)), ("full", 6, 2, (3,))]
FILM = (5, 1, [(1, FULLS, [edit(9, 0, 1)]), (2, FULLS, [edit(1), edit(4, 0, 1), edit(2, 0, 0), edit(1, 3, 0)])])
FIRST = [((0, 1), 0), ((2, 1), 1), ((4, 1), None), ((6, 1), 2), ((8, 1), None)]
SECOND = [((1, 1), 0), ((2, 1), 1), ((3, 1), None), ((4, 1), 2), ((5, 1), 0), ((7, 1), 2), ((8, 1), None)]
FAR = (10 ** 9, 1)


def number_at(told_lane, t):
    """The number of the leaf that is shown at t, or None."""
    x = led(told_lane[2], t)
    return None if x is None else leaf_at(told_lane, x)


def all_changes(told_lane):
    """All changes of a lane as told: at each point at which it may turn, what is shown is held against just ahead."""
    points = sorted(turning_points(told_lane))
    found, ahead = [], None
    for at, point in enumerate(points):
        if at > 0:
            ahead = number_at(told_lane, (points[at - 1] + point) / 2)
        if number_at(told_lane, point) != ahead:
            found.append((told(point), number_at(told_lane, point)))
    return found


def within(rows, low, high):
    """Those of the rows whose moment is from low on and below high."""
    return [row for row in rows if low <= worth(row[0]) < high]


def by_moment(told_film):
    """All changes of a film as told, by moment, of like ones by lane."""
    rows = [(moment, lane, number) for lane, told_lane in enumerate(told_film[2])
            for moment, number in all_changes(told_lane)]
    return sorted(rows, key=lambda row: (worth(row[0]), row[1]))


def no_spans():
    """Things that are no fraction above nought."""
    return no_moments() + [(0, 1), (-1, 2), (-3, 1)]


class Changes(unittest.TestCase):
    def test_written_out(self):
        film = film_of(FILM)
        self.assertEqual(changes(film, 0, (0, 1), FAR), FIRST)
        self.assertEqual(changes(film, 1, (0, 1), FAR), SECOND)
        self.assertIs(type(changes(film, 0, (0, 1), FAR)), list)
        self.assertIs(type(changes(film, 0, (0, 1), FAR)[0]), tuple)

    def test_low_and_high(self):
        film = film_of(FILM)
        little = Fraction(1, 10 ** 20)
        for low, high, right in ((0, little, FIRST[:1]), (little, 2, []), (little, 2 + little, FIRST[1:2]),
                                 (1, 3, FIRST[1:2]), (2, 4, FIRST[1:2]), (2, 4 + little, FIRST[1:3]),
                                 (2 - little, 2, []), (7, 8, []), (8, 9, FIRST[4:]), (9, 99, []), (8 + little, 9, [])):
            self.assertEqual(changes(film, 0, told(low), told(high)), right)

    def test_low_amid_a_leaf_is_no_change(self):
        film = film_of(FILM)
        for low in (Fraction(1, 2), Fraction(1), Fraction(3), Fraction(5), Fraction(7)):
            self.assertNotIn(told(low), [moment for moment, number in changes(film, 0, told(low), FAR)])

    def test_moment_nought(self):
        for edits, right in (([edit(1, 0, 1)], 0), ([edit(1, 2, 0)], 1), ([edit(1, 4, 1)], None), ([edit(1)], None),
                             ([], None)):
            film = film_of((5, 1, [(1, FULLS, edits)]))
            self.assertEqual(changes(film, 0, (0, 1), (1, 2)), [] if right is None else [((0, 1), right)])

    def test_borders_of_edits(self):
        # At a border the same leaf goes on, another one comes, or none; a leaf that comes again is a change.
        edits = [edit(1, 0, 1), edit(1, 0, 1), edit(1, 1, 1), edit(1, 0, 0), edit(1), edit(1), edit(1, 0, 1),
                 edit(1, 6, 0)]
        film = film_of((5, 1, [(1, FULLS, edits)]))
        self.assertEqual(changes(film, 0, (0, 1), FAR),
                         [((0, 1), 0), ((4, 1), None), ((6, 1), 0), ((7, 1), 2), ((8, 1), None)])

    def test_leaves_that_touch(self):
        film = film_of((5, 1, [(3, [("full", 3, 1, (1,)), ("full", 2, 1, (1,)), ("full", 1, 1, (1,))],
                                [edit(5, 0, 1)])]))
        self.assertEqual(changes(film, 0, (0, 1), FAR), [((1, 3), 2), ((2, 3), 1), ((1, 1), 0), ((4, 3), None)])

    def test_ends_of_edits_at_borders_of_leaves(self):
        # The first edit ends just where the second leaf begins: it never shows it.
        edits = [edit(2, 0, 1), edit(1, 0, 1)]
        film = film_of((5, 1, [(1, FULLS, edits)]))
        self.assertEqual(changes(film, 0, (0, 1), FAR), [((0, 1), 0), ((3, 1), None)])

    def test_rates(self):
        film = film_of((5, 1, [(1, FULLS, [edit(3, 1, Fraction(2, 3)), edit(1, 0, 8)])]))
        self.assertEqual(changes(film, 0, (0, 1), FAR),
                         [((0, 1), 0), ((3, 2), 1), ((3, 1), 0), ((13, 4), 1), ((7, 2), None), ((15, 4), 2),
                          ((4, 1), None)])

    def test_by_chance(self):
        for seed in range(100):
            told_film = some_film(seed, 3, 7)
            film = film_of(told_film)
            for lane, told_lane in enumerate(told_film[2]):
                right = all_changes(told_lane)
                self.assertEqual(changes(film, lane, (0, 1), FAR), right)
                points = probes(turning_points(told_lane))
                chance = dice(seed)
                for turn in range(8):
                    low, high = sorted((chance.choice(points), chance.choice(points)))
                    if low < high:
                        self.assertEqual(changes(film, lane, told(low), told(high)), within(right, low, high))

    def test_refusals_in_their_order(self):
        film = film_of(FILM)
        for wrong in wrong_whole(0, 1):
            for low, high in (((0, 1), (1, 1)), (None, None), ((1, 1), (0, 1))):
                with self.assertRaises(NoLane):
                    changes(film, wrong, low, high)
        for wrong in no_moments():
            for low, high in ((wrong, (1, 1)), ((0, 1), wrong)):
                with self.assertRaises(NoMoment):
                    changes(film, 0, low, high)
        for low, high in (((0, 1), (0, 1)), ((1, 1), (1, 2)), ((9, 1), (9, 1))):
            with self.assertRaises(NoMoment):
                changes(film, 1, low, high)

    def test_arguments_by_their_names_and_lists_of_the_asker(self):
        film = film_of(FILM)
        changes(film, 0, (0, 1), FAR).clear()
        self.assertEqual(changes(high=FAR, low=(0, 1), lane=0, film=film), FIRST)

    def test_moments_of_many_figures(self):
        edits = [edit(Fraction(1, 10 ** 29 + 2 * k + 1), Fraction(k % 3), 0) for k in range(60)]
        told_lane = (1, [("full", number, 1, (1,)) for number in range(3)], edits)
        film = film_of((5, 1, [told_lane]))
        right = all_changes(told_lane)
        self.assertEqual(len(right), 61)
        self.assertEqual(changes(film, 0, (0, 1), FAR), right)
        player = Player(film)
        for moment, number in right:
            player.seek(moment)
            self.assertEqual([row[0] for row in player.play((1, 10 ** 40))], [moment])


class Playing(unittest.TestCase):
    def test_at(self):
        player = Player(film=film_of(FILM))
        self.assertEqual(player.at, (0, 1))
        player.play((3, 2))
        self.assertEqual(player.at, (3, 2))
        player.play(span=(1, 3))
        self.assertEqual(player.at, (11, 6))
        self.assertIs(player.seek(t=(1, 7)), None)
        self.assertEqual(player.at, (1, 7))
        player.play(FAR)
        self.assertEqual(player.at, (7 * 10 ** 9 + 1, 7))

    def test_written_out(self):
        player = Player(film_of(FILM))
        self.assertEqual(player.play((2, 1)), [((0, 1), 0, 0), ((1, 1), 1, 0)])
        self.assertEqual(player.play((1, 1)), [((2, 1), 0, 1), ((2, 1), 1, 1)])
        self.assertEqual(player.play((2, 1)), [((3, 1), 1, None), ((4, 1), 0, None), ((4, 1), 1, 2)])
        self.assertEqual(player.play((1, 10 ** 9)), [((5, 1), 1, 0)])
        self.assertEqual(player.play((1, 2)), [])
        player.seek((8, 1))
        self.assertEqual(player.play((1, 1)), [((8, 1), 0, None), ((8, 1), 1, None)])
        self.assertEqual(player.play(FAR), [])
        player.seek((0, 1))
        self.assertEqual(player.play((1, 1)), [((0, 1), 0, 0)])

    def test_parts_against_the_whole(self):
        for seed in range(60):
            told_film = some_film(seed, 4, 6)
            film = film_of(told_film)
            right = by_moment(told_film)
            self.assertEqual(Player(film).play(FAR), right)
            points = probes({t for lane in told_film[2] for t in turning_points(lane)})
            chance = dice(seed)
            cuts = sorted({chance.choice(points) for turn in range(6)} - {Fraction(0)})
            player, found, at = Player(film), [], Fraction(0)
            for end in cuts:
                told_part = player.play(told(end - at))
                self.assertEqual(told_part, within(right, at, end))
                self.assertEqual(player.at, told(end))
                self.assertEqual(player.here(), [film.shown(lane, told(end)) for lane in range(len(film))])
                found, at = found + told_part, end
            self.assertEqual(found, within(right, 0, at))

    def test_like_moments_by_lane(self):
        film = film_of((5, 1, [(1, FULLS, [edit(9, 0, 1)]), (2, FULLS, [edit(9, 0, Fraction(1, 2))])] * 4))
        right = [(moment, lane, number) for moment, number in FIRST for lane in range(8)]
        self.assertEqual(Player(film).play(FAR), right)

    def test_seeking_forth_and_back(self):
        told_film = some_film(3, 3, 6)
        film, right = film_of(told_film), by_moment(told_film)
        player = Player(film)
        for low, high in ((5, 7), (0, 3), (2, 2 + Fraction(1, 3)), (1, 9), (0, 99)):
            player.seek(told(low))
            self.assertEqual(player.at, told(low))
            self.assertEqual(player.play(told(high - low)), within(right, low, high))

    def test_here(self):
        for seed in range(30):
            told_film = some_film(seed, 3, 6)
            film = film_of(told_film)
            player = Player(film)
            self.assertEqual(player.here(), [film.shown(lane, (0, 1)) for lane in range(len(film))])
            for t in probes({t for lane in told_film[2] for t in turning_points(lane)}):
                player.seek(told(t))
                found = player.here()
                self.assertIs(type(found), list)
                self.assertEqual(found, [film.shown(lane, told(t)) for lane in range(len(film))])
                found.clear()
                self.assertEqual(len(player.here()), len(film))
                self.assertEqual(player.at, told(t))

    def test_no_span(self):
        player = Player(film_of(FILM))
        player.play((1, 2))
        for wrong in no_spans():
            with self.assertRaises(NoSpan):
                player.play(wrong)
            self.assertEqual(player.at, (1, 2))
        self.assertEqual(player.play((1, 1)), [((1, 1), 1, 0)])

    def test_no_moment(self):
        player = Player(film_of(FILM))
        player.seek((1, 2))
        for wrong in no_moments():
            with self.assertRaises(NoMoment):
                player.seek(wrong)
            self.assertEqual(player.at, (1, 2))
        self.assertEqual(player.here(), [(0, (1,)), None])

    def test_lists_told_changed_by_the_asker(self):
        player = Player(film_of(FILM))
        player.play(FAR).clear()
        player.seek((0, 1))
        self.assertEqual(player.play(FAR), by_moment(FILM))

    def test_two_players_by_turns(self):
        film = film_of(FILM)
        one, other = Player(film), Player(film)
        one.play((3, 1))
        self.assertEqual(other.at, (0, 1))
        other.seek((7, 1))
        self.assertEqual(one.at, (3, 1))
        self.assertEqual(one.play((1, 1)) + other.play((1, 1)), [((3, 1), 1, None), ((7, 1), 1, 2)])

    def test_films_without_changes(self):
        player = Player(film_of((5, 1, [(1, [], []), (1, FULLS, []), (1, [], [edit(3, 0, 1)])])))
        self.assertEqual(player.play(FAR), [])
        self.assertEqual(player.here(), [None, None, None])


if __name__ == "__main__":
    unittest.main()
