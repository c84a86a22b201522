"""Pieces and their order, points 32 and 33, and what point 3 promises of their order."""

import copy
import itertools
import unittest
from fractions import Fraction

from lanescroll.errors import NoLane, NoMany, NoMoment, NoNumber
from lanescroll.films import film_of
from lanescroll.pieces import due_from, ordered, piece, pieces, read_by
from tests.byhand import lane_dues, ordered_by_hand, piece_dues, pieces_by_hand
from tests.oracle import dice, edit, some_film, told
from tests.things import no_moments, wrong_whole

LEAVES = [
    ("full", 40, 4, (1, 2)),
    ("woven", 30, 2, (("moved", 1, 1, 255), ("plain", 7))),
    ("woven", 20, 3, (("plain", 1), ("moved", 1, 0, 3))),
    ("full", 50, 1, (5, 6)),
    ("woven", 10, 1, (("moved", 2, 0, 0), ("plain", 0))),
    ("still", 60, 1, 2),
]
FILM = (77, 2, [(4, LEAVES, [edit(9, 0, 1)]), (3, [], []), (10, [("full", 0, 5, (9, 8))], [])])


def run(many, units=1, wide=1):
    """A lane as told of so many Full leaves, one behind the other."""
    return (units, [("full", number, 1, (number % 256,) * wide) for number in range(many)], [])


def some_pieces(chance, told_film, many):
    """So many pieces of a film as told, from any leaf on, by chance, perhaps some twice."""
    found = []
    lanes = [lane for lane, told_lane in enumerate(told_film[2]) if told_lane[1]]
    for turn in range(many if lanes else 0):
        lane = chance.choice(lanes)
        leaves = told_film[2][lane][1]
        first = chance.randrange(len(leaves))
        count = chance.randint(1, len(leaves) - first)
        found.append((told_film[0], lane, first, leaves[first:first + count]))
    return found


class Piece(unittest.TestCase):
    def test_every_run(self):
        film = film_of(FILM)
        for lane, (units, leaves, edits) in enumerate(FILM[2]):
            for first in range(len(leaves)):
                for many in range(1, len(leaves) - first + 1):
                    found = piece(film, lane, first, many)
                    self.assertEqual(found, (77, lane, first, leaves[first:first + many]))
                    self.assertIs(type(found), tuple)
                    self.assertIs(type(found[3]), list)

    def test_two_hundred(self):
        film = film_of((0, 1, [run(200)]))
        self.assertEqual(piece(film, 0, 0, 200), (0, 0, 0, run(200)[1]))
        self.assertEqual(piece(film, 0, 199, 1), (0, 0, 199, run(200)[1][199:]))
        for first, many in ((0, 201), (1, 200), (199, 2), (198, 3)):
            with self.assertRaises(NoMany):
                piece(film, 0, first, many)

    def test_no_lane_ahead_of_no_number_ahead_of_no_many(self):
        film = film_of(FILM)
        for wrong in wrong_whole(0, 2):
            for first, many in ((0, 1), (99, 1), (0, 0), (None, None)):
                with self.assertRaises(NoLane):
                    piece(film, wrong, first, many)
        for lane, count in ((0, 6), (1, 0), (2, 1)):
            for wrong in wrong_whole(0, count - 1):
                for many in (1, 0, None, 300):
                    with self.assertRaises(NoNumber):
                        piece(film, lane, wrong, many)
        for lane, first, most in ((0, 0, 6), (0, 4, 2), (0, 5, 1), (2, 0, 1)):
            for wrong in wrong_whole(1, most):
                with self.assertRaises(NoMany):
                    piece(film, lane, first, wrong)

    def test_arguments_by_their_names(self):
        self.assertEqual(piece(many=2, first=1, lane=0, film=film_of(FILM)), (77, 0, 1, LEAVES[1:3]))

    def test_lists_told_changed_by_the_asker(self):
        film = film_of(FILM)
        piece(film, 0, 0, 3)[3].clear()
        piece(film, 0, 0, 3)[3][0] = None
        self.assertEqual(piece(film, 0, 0, 3), (77, 0, 0, LEAVES[:3]))
        self.assertEqual(film.told(), FILM)


class Pieces(unittest.TestCase):
    def test_every_count(self):
        told_film = (5, 1, [run(7), run(0), run(200), run(1), run(8)])
        film = film_of(told_film)
        for many in range(1, 201):
            self.assertEqual(pieces(film, many), pieces_by_hand(told_film, many))

    def test_written_out(self):
        film = film_of((5, 1, [run(3), run(0), run(2)]))
        first, second = run(3)[1], run(2)[1]
        self.assertEqual(pieces(film, 2), [(5, 0, 0, first[:2]), (5, 0, 2, first[2:]), (5, 2, 0, second)])
        self.assertEqual(pieces(film_of((5, 1, [run(0)] * 8)), 1), [])

    def test_eight_where_it_is_left_out(self):
        told_film = (5, 1, [run(17), run(8)])
        film = film_of(told_film)
        self.assertEqual(pieces(film), pieces_by_hand(told_film, 8))
        self.assertEqual([len(told_piece[3]) for told_piece in pieces(film)], [8, 8, 1, 8])
        self.assertEqual(pieces(many=3, film=film), pieces_by_hand(told_film, 3))

    def test_no_many(self):
        for film in (film_of(FILM), film_of((5, 1, [run(0)])), film_of((5, 1, [run(200)]))):
            for wrong in wrong_whole(1, 200):
                with self.assertRaises(NoMany):
                    pieces(film, wrong)

    def test_lists_told_changed_by_the_asker(self):
        film = film_of(FILM)
        found = pieces(film, 2)
        found[0][3].clear()
        found.clear()
        self.assertEqual(pieces(film, 2), pieces_by_hand(FILM, 2))


class Due(unittest.TestCase):
    def test_written_out(self):
        # Leaf 4 takes a cell of leaf 2 that hangs on nothing; leaf 2 hangs on leaf 0 through a cell of leaf 1.
        film = film_of(FILM)
        self.assertEqual([due_from(film, 0, number) for number in range(6)],
                         [(5, 1), (5, 1), (5, 2), (25, 2), (5, 2), (15, 1)])
        self.assertEqual(due_from(film, 2, 0), (0, 1))

    def test_through_others(self):
        leaves = [("full", 9, 1, (1,))] + [("still", 8 - number, 1, 1) for number in range(8)]
        film = film_of((1, 1, [(2, leaves, [])]))
        self.assertEqual([due_from(film, 0, number) for number in range(9)], [(1, 2)] * 9)
        # The last one hangs on the first through the others, all of which begin later.
        leaves = [("full", 9, 1, (1,)), ("still", 8, 1, 1), ("still", 20, 1, 1), ("still", 30, 1, 1),
                  ("still", 1, 1, 1)]
        film = film_of((1, 1, [(1, leaves, [])]))
        self.assertEqual([due_from(film, 0, number) for number in range(5)], [(1, 1)] * 5)

    def test_cells_on_which_none_hangs_do_not_count(self):
        leaves = [("full", 9, 1, (1, 2)), ("woven", 5, 1, (("moved", 1, 0, 0), ("plain", 3))),
                  ("woven", 2, 1, (("moved", 1, 1, 0), ("plain", 3)))]
        film = film_of((1, 2, [(1, leaves, [])]))
        self.assertEqual([due_from(film, 0, number) for number in range(3)], [(5, 1), (2, 1), (2, 1)])

    def test_by_chance(self):
        for seed in range(60):
            told_film = some_film(seed, 3, 10)
            film = film_of(told_film)
            for lane, told_lane in enumerate(told_film[2]):
                right = [told(due) for due in lane_dues(told_film, lane)]
                self.assertEqual([due_from(film, lane, number) for number in range(len(right))], right)

    def test_very_many_ways(self):
        leaves = [("full", 1000 - number, 1, (3,) * 16) for number in range(2)]
        leaves += [("woven", 1000 - number, 1, tuple([("mixed", 1, cell, 2, 15 - cell) for cell in range(16)]))
                   for number in range(2, 200)]
        film = film_of((0, 16, [(10 ** 6, leaves, [])]))
        self.assertEqual({due_from(film, 0, number) for number in range(200)}, {told(Fraction(801, 10 ** 6))})

    def test_refusals_in_their_order(self):
        film = film_of(FILM)
        for wrong in wrong_whole(0, 2):
            for number in (0, 99, None):
                with self.assertRaises(NoLane):
                    due_from(film, wrong, number)
        for lane, count in ((0, 6), (1, 0), (2, 1)):
            for wrong in wrong_whole(0, count - 1):
                with self.assertRaises(NoNumber):
                    due_from(film, lane, wrong)
        self.assertEqual(due_from(number=2, lane=0, film=film), (5, 2))


class Ordered(unittest.TestCase):
    def test_written_out(self):
        film = film_of(FILM)
        found = ordered(film, pieces(film, 2))
        self.assertEqual([row[1:3] for row in found], [(2, 0), (0, 2), (0, 4), (0, 0)])
        self.assertEqual(ordered(film, []), [])

    def test_by_chance(self):
        for seed in range(80):
            told_film = some_film(seed, 4, 8)
            film = film_of(told_film)
            chance = dice(seed)
            handed = some_pieces(chance, told_film, chance.randint(0, 12))
            before = copy.deepcopy(handed)
            found = ordered(film, handed)
            self.assertEqual(found, ordered_by_hand(told_film, handed))
            self.assertEqual(handed, before)
            handed = pieces_by_hand(told_film, chance.randint(1, 4)) * 2
            chance.shuffle(handed)
            self.assertEqual(ordered(film, handed), ordered_by_hand(told_film, handed))

    def test_like_dues(self):
        # Each leaf is due at once, as the last one hangs on all; so lane, first and count alone decide.
        leaves = [("full", 8, 2, (1,)), ("still", 4, 2, 1), ("still", 0, 2, 1)]
        film = film_of((3, 1, [(2, leaves, []), (5, leaves, []), (7, leaves, [])]))
        handed = [piece(film, lane, first, many) for lane in range(3) for first in range(3)
                  for many in range(1, 4 - first)]
        for seed in range(20):
            shuffled = list(handed)
            dice(seed).shuffle(shuffled)
            self.assertEqual(ordered(film, shuffled), handed)

    def test_dues_of_lanes_of_unlike_units(self):
        lanes = [(units, [("full", begin, 1, (1,))], []) for units, begin in
                 ((3, 1), (10 ** 6, 333333), (10 ** 6, 333334), (999999, 333333), (2, 1), (1, 0), (7, 2),
                  (999983, 333327))]
        told_film = (3, 1, lanes)
        film = film_of(told_film)
        right = sorted(range(8), key=lambda lane: (Fraction(lanes[lane][1][0][1], lanes[lane][0]), lane))
        self.assertEqual([row[1] for row in ordered(film, pieces(film, 1))], right)
        self.assertEqual([row[1] for row in ordered(film, pieces(film, 1)[::-1])], right)
        # A third and 333333 over 999999 are like, so the lesser lane comes first.
        self.assertLess(right.index(0), right.index(3))

    def test_pieces_twice(self):
        film = film_of(FILM)
        one = piece(film, 0, 2, 2)
        found = ordered(pieces=[one, one, one], film=film)
        self.assertEqual(found, [one] * 3)
        found[0][3].clear()
        self.assertEqual(found[1:], [piece(film, 0, 2, 2)] * 2)
        self.assertEqual(one, piece(film, 0, 2, 2))

    def test_very_many_pieces(self):
        film = film_of((3, 1, [run(200, units) for units in range(1, 9)]))
        handed = pieces(film, 1) * 3
        dice(1).shuffle(handed)
        found = ordered(film, handed)
        self.assertEqual(len(found), 4800)
        dues = [Fraction(row[2], row[1] + 1) for row in found]
        self.assertEqual(dues, sorted(dues))
        self.assertEqual(read_by(film, found, (10 ** 9, 1)), 4800)


class ReadBy(unittest.TestCase):
    def by_hand(self, dues, t):
        """How many must be read, counted from the end."""
        for many in range(len(dues), 0, -1):
            if dues[many - 1] <= t:
                return many
        return 0

    def moments(self, dues):
        """The dues, a little ahead of each, between them and behind all."""
        found = {Fraction(0), Fraction(10 ** 9)}
        for due in dues:
            found.update((due, due + Fraction(1, 10 ** 7), max(Fraction(0), due - Fraction(1, 10 ** 7))))
        return sorted(found)

    def test_by_chance(self):
        for seed in range(60):
            told_film = some_film(seed, 3, 7)
            film = film_of(told_film)
            chance = dice(seed)
            handed = some_pieces(chance, told_film, chance.randint(0, 8))
            dues = piece_dues(told_film, handed)
            for t in self.moments(dues):
                self.assertEqual(read_by(film, handed, told(t)), self.by_hand(dues, t))

    def test_none_is_due(self):
        film = film_of((3, 1, [(2, [("full", 4, 1, (1,)), ("full", 6, 1, (1,))], [])]))
        handed = pieces(film, 1)
        for t, many in (((0, 1), 0), ((199, 100), 0), ((2, 1), 1), ((5, 2), 1), ((299, 100), 1), ((3, 1), 2),
                        ((9, 1), 2)):
            self.assertEqual(read_by(film, handed, t), many)
        self.assertEqual(read_by(film, handed[::-1], (2, 1)), 2)
        self.assertEqual(read_by(film, [], (2, 1)), 0)

    def test_no_order_is_read_by_less_than_the_ordered_one(self):
        for seed in range(12):
            told_film = some_film(seed, 3, 5)
            film = film_of(told_film)
            handed = some_pieces(dice(seed), told_film, 5)
            right = ordered(film, handed)
            times = [told(t) for t in self.moments(piece_dues(told_film, handed))]
            least = [read_by(film, right, t) for t in times]
            for order in itertools.permutations(handed):
                for t, many in zip(times, least):
                    self.assertGreaterEqual(read_by(film, list(order), t), many)

    def test_no_moment(self):
        film = film_of(FILM)
        for wrong in no_moments():
            for handed in ([], pieces(film, 2)):
                with self.assertRaises(NoMoment):
                    read_by(film, handed, wrong)

    def test_moments_of_many_figures(self):
        film = film_of((3, 1, [(3, [("full", 1, 1, (1,)), ("full", 2, 1, (1,))], [])]))
        handed = pieces(film, 1)
        little = Fraction(1, 10 ** 2000)
        for t, many in ((Fraction(1, 3), 1), (Fraction(1, 3) - little, 0), (Fraction(2, 3) - little, 1)):
            self.assertEqual(read_by(film, handed, told(t)), many)

    def test_arguments_by_their_names_and_lists_that_stay(self):
        film = film_of(FILM)
        handed = pieces(film, 2)
        before = copy.deepcopy(handed)
        self.assertEqual(read_by(t=(5, 2), pieces=handed, film=film), 4)
        self.assertEqual(handed, before)


if __name__ == "__main__":
    unittest.main()
