"""Seeking, points 40 to 43, and what point 3 promises of a seeker over a film's file."""

import unittest
from fractions import Fraction

from lanescroll.boxes import boxes_in
from lanescroll.errors import NoBytes, NoHead, NoLane, NoMoment
from lanescroll.files import write
from lanescroll.films import film_of
from lanescroll.gather import Gather
from lanescroll.seeker import Seeker
from tests.byhand import box_by_hand, file_by_hand, file_of, head_box, head_of, index_box, numbers_row, piece_box
from tests.oracle import dice, edit, ends, hung_on, led, probes, some_film, told, turning_points
from tests.plain import PlainSeeker, content
from tests.things import no_moments, no_rows, wrong_whole

# Leaf 3 hangs on 0 through a cell of 1; leaf 2 on none; leaf 4 on 2; the order of time is another one.
LEAVES = [
    ("full", 10, 2, (1, 2)), ("woven", 12, 2, (("moved", 1, 1, 5), ("plain", 7))), ("full", 0, 2, (3, 4)),
    ("woven", 2, 2, (("moved", 2, 0, 1), ("plain", 9))), ("still", 6, 2, 2),
]
EDITS = [edit(14, 0, 1), edit(2), edit(3, 5, 0)]
FILM = (77, 2, [(1, LEAVES, EDITS), (2, [("full", 0, 3, (9, 8))], [edit(5, 0, 1)]), (3, [], [edit(1, 0, 1)])])
HEAD = head_of(FILM)
PIECES = [(77, 0, number, [leaf]) for number, leaf in enumerate(LEAVES)] + [(77, 1, 0, FILM[2][1][1])]


def parts_of(row):
    """The parts of a file: the boxes one by one."""
    places = [at for at, kind, body in boxes_in(row)] + [len(row)]
    return [row[low:high] for low, high in zip(places, places[1:])]


def index_of(row):
    """The rows of the index at a file's end."""
    numbers, number = [], 0
    for byte in boxes_in(row)[-1][2]:
        number = number * 128 + byte % 128
        if byte < 128:
            numbers.append(number)
            number = 0
    return [tuple(numbers[at:at + 6]) for at in range(2, len(numbers), 6)]


def with_index(row, rows, seal=77):
    """A file with another index."""
    return sum(parts_of(row)[:-1], []) + index_box((seal, rows))


def starts(row):
    """The places at which a START stands."""
    return [at for at in range(len(row)) if row[at:at + 3] == [0, 0, 1]]


def place_of(row, lane, first):
    """The place of the box of the piece of the lane that begins with the number."""
    return [told_row[5] for told_row in index_of(row) if told_row[:2] == (lane, first)][0]


def told_of(film, lane, t):
    """What a seeker over the film's file must tell."""
    shown = film.shown(lane, t)
    return ("blank",) if shown is None else ("leaf",) + shown


class SeekCase(unittest.TestCase):
    def assert_gave_up(self, row, seeker):
        """The seeker tells what a gather of the first head's seal tells, and has opened all."""
        self.assertIs(seeker.seeks(), False)
        self.assertEqual(seeker.opened(), starts(row))
        heads = [content(kind, body) for at, kind, body in boxes_in(row) if kind == 1]
        gather = Gather([head for head in heads if head is not None][0][0])
        gather.take(row)
        for lane in range(len(gather.head()[2])):
            for t in range(0, 40):
                self.assertEqual(seeker.shown(lane, (t, 1)), gather.shown(lane, (t, 1)))
        self.assertIs(seeker.seeks(), False)
        self.assertEqual(seeker.opened(), starts(row))

    def assert_no_head(self, row):
        seeker = Seeker(row)
        self.assertIs(seeker.seeks(), False)
        for lane, t in ((0, (0, 1)), (None, None), (9, (0, 1)), (0, (2, 2))):
            with self.assertRaises(NoHead):
                seeker.shown(lane, t)
        self.assertEqual(seeker.opened(), starts(row))


class OverFiles(SeekCase):
    def test_written_out(self):
        row = file_by_hand(FILM, 1)
        seeker = Seeker(row)
        last = starts(row)[-1]
        self.assertIs(seeker.seeks(), True)
        self.assertEqual(seeker.opened(), [0, last])
        self.assertEqual(seeker.shown(0, (0, 1)), ("leaf", 2, (3, 4)))
        self.assertEqual(seeker.opened(), sorted([0, last, place_of(row, 0, 2)]))
        self.assertEqual(seeker.shown(0, (2, 1)), ("leaf", 3, (8, 9)))
        places = [place_of(row, 0, number) for number in (0, 1, 2, 3)]
        self.assertEqual(seeker.opened(), sorted([0, last] + places))
        self.assertEqual(seeker.shown(1, (0, 1)), ("leaf", 0, (9, 8)))
        self.assertEqual(seeker.opened(), sorted([0, last, place_of(row, 1, 0)] + places))
        self.assertEqual(seeker.shown(0, (6, 1)), ("leaf", 4, (3, 4)))
        self.assertEqual(seeker.opened(), starts(row)[:-2] + [last])
        self.assertIs(seeker.seeks(), True)

    def test_nothing_is_opened_where_nothing_is_led_to(self):
        row = file_by_hand(FILM, 8)
        seeker = Seeker(row)
        for t in ((14, 1), (15, 1), (19, 1), (99, 1)):
            self.assertEqual(seeker.shown(0, t), ("blank",))
        self.assertEqual(seeker.shown(2, (0, 1)), ("blank",))
        self.assertEqual(seeker.shown(2, (2, 1)), ("blank",))
        self.assertEqual(seeker.opened(), [0, starts(row)[-1]])

    def test_gaps_within_a_piece_and_between_pieces(self):
        row = file_by_hand(FILM, 2)
        seeker = Seeker(row)
        # From 4 to 6 no leaf is shown, though the stretch of the leaves 2 and 3, 0 to 4, ends there.
        self.assertEqual(seeker.shown(0, (4, 1)), ("blank",))
        self.assertEqual(seeker.opened(), [0, starts(row)[-1]])
        wide_row = file_by_hand(FILM, 8)
        seeker = Seeker(wide_row)
        self.assertEqual(seeker.shown(0, (5, 1)), ("blank",))
        self.assertEqual(seeker.opened(), sorted([0, place_of(wide_row, 0, 0), starts(wide_row)[-1]]))

    def test_rows_of_one_stretch_are_opened_up_to_the_first_with_the_leaf(self):
        leaves = [("full", 0, 1, (1,)), ("full", 8, 1, (2,)), ("full", 2, 1, (3,)), ("full", 6, 1, (4,)),
                  ("full", 4, 1, (5,)), ("full", 5, 1, (6,))]
        told_film = (77, 1, [(1, leaves, [edit(9, 0, 1)])])
        row = file_by_hand(told_film, 2)
        last = starts(row)[-1]
        first, second, third = [place_of(row, 0, number) for number in (0, 2, 4)]
        for t, places in ((0, [first]), (8, [first]), (2, [first, second]), (4, [first, second, third]),
                          (3, [first, second]), (7, [first]), (1, [first])):
            seeker = Seeker(row)
            self.assertEqual(seeker.shown(0, (t, 1)), told_of(film_of(told_film), 0, (t, 1)))
            self.assertEqual(seeker.opened(), sorted([0, last] + places), t)

    def test_what_is_shown_and_what_is_opened(self):
        for seed in range(35):
            told_film = some_film(seed, 3, 7)
            film = film_of(told_film)
            row = write(film, dice(seed).randint(1, 4))
            steady, last = Seeker(row), starts(row)[-1]
            for lane, told_lane in enumerate(told_film[2]):
                for t in probes(turning_points(told_lane)):
                    seeker, plain = Seeker(row), PlainSeeker(row)
                    right = told_of(film, lane, told(t))
                    self.assertEqual(seeker.shown(lane, told(t)), right)
                    self.assertEqual(plain.shown(lane, told(t)), right)
                    self.assertEqual(seeker.opened(), plain.opened())
                    self.assert_needed(row, told_film, lane, t, set(seeker.opened()) - {0, last})
                    before = set(steady.opened())
                    self.assertEqual(steady.shown(lane, told(t)), right)
                    self.assertEqual(set(steady.opened()), before | set(seeker.opened()))
                    self.assertIs(seeker.seeks(), True)

    def assert_needed(self, row, told_film, lane, t, places):
        """Each of the places is that of a piece whose stretch has the moment, or that has what is hung on."""
        units, leaves, edits = told_film[2][lane]
        x = led(edits, t)
        numbered, hung = dict(enumerate(leaves)), set()
        for number, (kind, begin, span, held) in numbered.items():
            if x is not None and Fraction(begin, units) <= x < Fraction(begin + span, units):
                hung = {pair[0] for cell in range(told_film[1])
                        for pair in hung_on(numbered, told_film[1], number, cell)}
        for told_lane, first, many, low, high, place in index_of(row):
            if place in places:
                self.assertEqual(told_lane, lane)
                in_stretch = x is not None and Fraction(low, units) <= x < Fraction(high, units)
                self.assertTrue(in_stretch or hung & set(range(first, first + many)))

    def test_whatever_stands_in_the_boxes_that_are_not_opened(self):
        for seed in range(12):
            told_film = some_film(seed, 2, 5)
            film = film_of(told_film)
            row = write(film, dice(seed).randint(1, 2))
            for lane, told_lane in enumerate(told_film[2]):
                for t in sorted(turning_points(told_lane)):
                    seeker = Seeker(row)
                    right = seeker.shown(lane, told(t))
                    torn = list(row)
                    for at, kind, body in boxes_in(row):
                        if at not in seeker.opened():
                            end = at + len(box_by_hand(kind, body))
                            torn[at + 4:end] = [dice(seed + at).choice((5, 77, 254))] * (end - at - 4)
                    other = Seeker(torn)
                    self.assertEqual(other.shown(lane, told(t)), right)
                    self.assertEqual(other.opened(), seeker.opened())
                    self.assertIs(other.seeks(), True)

    def test_two_hundred_leaves(self):
        leaves = [("full", 0, 3, tuple(range(16)))]
        leaves += [("woven", 3 * number, 2, tuple([("moved", 1, 15 - cell, 1) for cell in range(16)]))
                   for number in range(1, 200)]
        film = film_of((77, 16, [(3, leaves, [edit(200, 0, 1)])]))
        row = write(film, 1)
        seeker = Seeker(row)
        self.assertEqual(seeker.shown(0, (199, 1)), told_of(film, 0, (199, 1)))
        self.assertEqual(len(seeker.opened()), 202)
        seeker = Seeker(row)
        self.assertEqual(seeker.shown(0, (100, 1)), told_of(film, 0, (100, 1)))
        self.assertEqual(len(seeker.opened()), 103)

    def test_a_question_twice(self):
        row = file_by_hand(FILM, 1)
        seeker = Seeker(row)
        first = seeker.shown(0, (2, 1)), seeker.opened()
        self.assertEqual((seeker.shown(0, (2, 1)), seeker.opened()), first)

    def test_films_without_leaves(self):
        told_film = (77, 1, [(1, [], [edit(3, 0, 1)])])
        row = file_by_hand(told_film, 8)
        seeker = Seeker(row)
        self.assertIs(seeker.seeks(), True)
        self.assertEqual(seeker.shown(0, (0, 1)), ("blank",))
        self.assertEqual(seeker.opened(), [0, starts(row)[-1]])

    def test_other_bytes_behind_the_index(self):
        row = file_by_hand(FILM, 1) + [0, 0, 7, 1, 255]
        seeker = Seeker(row)
        self.assertIs(seeker.seeks(), True)
        self.assertEqual(seeker.shown(0, (0, 1)), ("leaf", 2, (3, 4)))
        self.assert_gave_up(row + [0, 0, 1], Seeker(row + [0, 0, 1]))


class Refused(SeekCase):
    def test_no_bytes(self):
        for wrong in no_rows() + [tuple(file_by_hand(FILM, 1))]:
            with self.assertRaises(NoBytes):
                Seeker(wrong)

    def test_no_lane_ahead_of_no_moment(self):
        row = file_by_hand(FILM, 1)
        torn = row[:-1]
        for seeker, right in ((Seeker(row), [0, starts(row)[-1]]), (Seeker(torn), starts(torn))):
            for wrong in wrong_whole(0, 2):
                for t in ((0, 1), None, (2, 2)):
                    with self.assertRaises(NoLane):
                        seeker.shown(wrong, t)
            for wrong in no_moments():
                with self.assertRaises(NoMoment):
                    seeker.shown(0, wrong)
            self.assertEqual(seeker.opened(), right)

    def test_rows_without_a_head(self):
        pieces = sum([piece_box(piece) for piece in PIECES], [])
        for row in ([], [0], [0, 0, 1], [5] * 9, pieces, index_box((77, [])), pieces + index_box((77, [])),
                    box_by_hand(4, []) + pieces, box_by_hand(1, [5, 5]) + pieces, head_box(HEAD)[:-1] + pieces):
            self.assert_no_head(row)

    def test_two_unlike_heads(self):
        other = head_box((77, 2, [(1, 1, [])]))
        self.assert_no_head(head_box(HEAD) + other)
        self.assert_no_head([5] + head_box(HEAD) + piece_box(PIECES[0]) + other)
        # While it seeks, another head is not looked at.
        row = file_by_hand(FILM, 1)
        parts = parts_of(row)
        rows = [told_row[:5] + (told_row[5],) for told_row in index_of(row)]
        changed = sum(parts[:-2], []) + other + index_box((77, rows))
        seeker = Seeker(changed)
        self.assertIs(seeker.seeks(), True)
        self.assertEqual(seeker.shown(0, (0, 1)), ("leaf", 2, (3, 4)))

    def test_a_refusal_when_it_gives_up(self):
        row = file_by_hand(FILM, 1)
        parts = parts_of(row)
        rows = index_of(row)
        rows[-1] = rows[-1][:5] + (rows[-1][5] + 1,)
        changed = sum(parts[:-2], []) + head_box((77, 2, [(1, 1, [])])) + index_box((77, rows))
        seeker = Seeker(changed)
        lane, first, many, low, high, place = rows[-1]
        self.assertEqual(seeker.shown(0, (15, 1)), ("blank",))
        t = (low, FILM[2][lane][0])
        with self.assertRaises(NoHead):
            seeker.shown(lane, t)
        # It met a false row, so it gave up from that question on.
        self.assertIs(seeker.seeks(), False)
        with self.assertRaises(NoHead):
            seeker.shown(0, (15, 1))

    def test_arguments_by_their_names(self):
        seeker = Seeker(row=file_by_hand(FILM, 1))
        self.assertEqual(seeker.shown(t=(0, 1), lane=1), ("leaf", 0, (9, 8)))


class Kept(SeekCase):
    def test_the_row_stays_and_may_be_changed(self):
        row = file_by_hand(FILM, 1)
        before = list(row)
        seeker = Seeker(row)
        seeker.shown(0, (0, 1))
        self.assertEqual(row, before)
        row.clear()
        self.assertEqual(seeker.shown(0, (2, 1)), ("leaf", 3, (8, 9)))
        self.assertIs(seeker.seeks(), True)
        torn = before[:-1]
        seeker = Seeker(torn)
        torn.clear()
        self.assertEqual(seeker.shown(0, (2, 1)), ("leaf", 3, (8, 9)))
        self.assertEqual(seeker.opened(), starts(before))

    def test_lists_told_changed_by_the_asker(self):
        row = file_by_hand(FILM, 1)
        for given in (row, row[:-1]):
            seeker = Seeker(given)
            self.assertIs(type(seeker.opened()), list)
            before = list(seeker.opened())
            seeker.opened().clear()
            seeker.opened().append(1)
            self.assertEqual(seeker.opened(), before)

    def test_two_seekers_by_turns(self):
        row = file_by_hand(FILM, 1)
        one, other = Seeker(row), Seeker(row)
        one.shown(0, (2, 1))
        self.assertEqual(other.opened(), [0, starts(row)[-1]])
        other.shown(1, (0, 1))
        self.assertNotIn(place_of(row, 1, 0), one.opened())


class GivingUp(SeekCase):
    def test_indexes_that_do_not_have_each_number_once(self):
        row = file_by_hand(FILM, 1)
        right = index_of(row)
        self.assertIs(Seeker(with_index(row, right)).seeks(), True)
        self.assertIs(Seeker(with_index(row, right[::-1])).seeks(), True)
        wrongs = [right[:one] + right[one + 1:] for one in range(len(right))]
        wrongs += [right + [right[one]] for one in range(len(right))]
        wrongs += [right + [(lane, first, 1, 0, 9, right[0][5])]
                   for lane, first in ((0, 5), (1, 1), (2, 0), (3, 0), (7, 199))]
        for one, (lane, first, many, low, high, place) in enumerate(right):
            for changed in ((lane, first, 2, low, high, place), (lane, first + 1, many, low, high, place),
                            (lane + 1, first, many, low, high, place), (lane, first, 200, low, high, place)):
                wrongs.append(right[:one] + [changed] + right[one + 1:])
        wrongs.append([])
        for wrong in wrongs:
            changed = with_index(row, wrong)
            self.assert_gave_up(changed, Seeker(changed))

    def test_indexes_of_another_seal(self):
        row = file_by_hand(FILM, 1)
        changed = with_index(row, index_of(row), 78)
        self.assert_gave_up(changed, Seeker(changed))

    def test_first_boxes_that_are_no_heads(self):
        row = file_by_hand(FILM, 1)
        parts = parts_of(row)
        for first in (piece_box(PIECES[0]), index_box((77, [])), box_by_hand(4, [1]), box_by_hand(1, [1]), [9], [0],
                      [0, 0, 1]):
            changed = first + sum(parts[1:], [])
            self.assert_gave_up(changed, Seeker(changed))
            self.assert_gave_up(first + row, Seeker(first + row))

    def test_last_boxes_that_are_no_indexes(self):
        row = file_by_hand(FILM, 1)
        ahead = sum(parts_of(row)[:-1], [])
        for last in ([], [0, 0, 1], [0, 0, 1, 3, 2], box_by_hand(3, [77]), box_by_hand(4, numbers_row([77, 0])),
                     head_box(HEAD), piece_box(PIECES[1]), parts_of(row)[-1][:-1], parts_of(row)[-1] + [0, 0, 1]):
            self.assert_gave_up(ahead + last, Seeker(ahead + last))

    def test_rows_false_in_each_of_their_parts(self):
        for many in (1, 2):
            row = file_by_hand(FILM, many)
            right = index_of(row)
            for one, told_row in enumerate(right):
                for part, change in ((3, -1), (3, 1), (4, -1), (4, 1), (5, 1), (5, -1), (5, 10 ** 5), (5, -10 ** 5)):
                    changed = list(told_row)
                    changed[part] = max(changed[part] + change, 0)
                    if tuple(changed) == told_row or (part == 4 and changed[4] < 1):
                        continue
                    self.assert_meets(row, right[:one] + [tuple(changed)] + right[one + 1:])

    def test_rows_that_tell_one_anothers_places(self):
        row = file_by_hand(FILM, 1)
        right = index_of(row)
        for one in range(len(right)):
            for other in range(one):
                changed = list(right)
                changed[one] = right[one][:5] + right[other][5:]
                changed[other] = right[other][:5] + right[one][5:]
                self.assert_meets(row, changed)
                changed[other] = right[other]
                self.assert_meets(row, changed)

    def test_rows_of_another_count_that_have_each_number_once(self):
        # The boxes are of two leaves each, the rows tell of other runs.
        row = file_by_hand(FILM, 2)
        right = index_of(row)
        places = {told_row[:2]: told_row[5] for told_row in right}
        lane_rows = [(0, 0, 2, 10, 14, places[(0, 0)]), (0, 2, 1, 0, 2, places[(0, 2)]),
                     (0, 3, 2, 2, 8, places[(0, 4)])]
        self.assert_meets(row, lane_rows + [told_row for told_row in right if told_row[0] == 1])

    def assert_meets(self, row, rows):
        """Moment by moment, a new seeker and a steady one tell what the plain ones do."""
        changed = with_index(row, rows)
        steady, plain_steady = Seeker(changed), PlainSeeker(changed)
        self.assertIs(steady.seeks(), True)
        for lane, t in [(2, 0), (0, 15), (1, 2)] + [(0, t) for t in range(15)] + [(1, 0), (1, 1)]:
            for one, other in ((Seeker(changed), PlainSeeker(changed)), (steady, plain_steady)):
                self.assertEqual(one.shown(lane, (t, 1)), other.shown(lane, (t, 1)))
                self.assertEqual(one.opened(), other.opened())
                self.assertIs(one.seeks(), other.seeking)
        return steady

    def test_pieces_torn(self):
        row = file_by_hand(FILM, 1)
        for lane, first, many, low, high, place in index_of(row):
            changed = list(row)
            changed[place + 6] ^= 1
            steady = self.assert_meets(changed, index_of(row))
            self.assertIs(steady.seeks(), False)

    def test_pieces_of_another_seal_lane_number_or_count(self):
        row = file_by_hand(FILM, 1)
        parts, rows = parts_of(row), index_of(row)
        full = ("full", 20, 2, (1, 2))
        for one, (lane, first, many, low, high, place) in enumerate(rows):
            leaf = FILM[2][lane][1][first]
            for other in ((78, lane, first, [leaf]), (77, lane + 1, first, [leaf]), (77, lane, first + 1, [leaf]),
                          (77, lane, first, [leaf, leaf]), (77, lane, first, [full]), (77, lane, first, [leaf, full])):
                built = self.built(parts, rows, one, piece_box(other))
                self.assert_meets(*built)

    def test_leaves_that_do_not_fit(self):
        row = file_by_hand(FILM, 1)
        parts, rows = parts_of(row), index_of(row)
        for one, (lane, first, many, low, high, place) in enumerate(rows):
            for leaf in (("full", low, high - low, (1,)), ("full", low, high - low, (1, 2, 3)),
                         ("still", low, high - low, first + 1),
                         ("woven", low, high - low, (("moved", first + 1, 0, 0), ("plain", 0)))):
                built = self.built(parts, rows, one, piece_box((77, lane, first, [leaf])))
                steady = self.assert_meets(*built)
                self.assertIs(steady.seeks(), False)

    def built(self, parts, rows, one, other):
        """A file with another box in the place of a piece's, and the rows with the places that are right then."""
        later = len(other) - len(parts[1 + one])
        row = sum(parts[:1 + one] + [other] + parts[2 + one:], [])
        return row, [told_row[:5] + (told_row[5] + (later if at > one else 0),) for at, told_row in enumerate(rows)]

    def test_leaves_shown_together(self):
        # No film: three leaves are shown at one moment, two in one piece. Of the first box it is the lesser one.
        head = (77, 1, [(1, 4, [edit(9, 0, 1)])])
        leaves = [("full", 0, 9, (1,)), ("full", 3, 2, (2,)), ("full", 2, 5, (3,)), ("full", 1, 1, (4,))]
        for order in ([0, 2], [2, 0]):
            row = file_of(head, [(77, 0, first, leaves[first:first + 2]) for first in order])
            seeker, plain = Seeker(row), PlainSeeker(row)
            for t in range(10):
                self.assertEqual(seeker.shown(0, (t, 1)), plain.shown(0, (t, 1)))
                self.assertEqual(seeker.opened(), plain.opened())
        row = file_of(head, [(77, 0, first, leaves[first:first + 2]) for first in (2, 0)])
        self.assertEqual([Seeker(row).shown(0, (t, 1))[1] for t in (0, 1, 2, 3, 6, 7, 8)], [0, 3, 2, 2, 2, 0, 0])

    def test_files_behind_one_another(self):
        one, other = file_by_hand(FILM, 1), file_by_hand(FILM, 2)
        small = file_by_hand((78, 1, [(1, [("full", 0, 5, (7,))], [edit(9, 0, 1)])]), 8)
        for row in (one + other, one + one, small + one, one + small):
            seeker, plain = Seeker(row), PlainSeeker(row)
            for lane in range(3 if row[:len(one)] == one else 1):
                for t in range(0, 18):
                    self.assertEqual(seeker.shown(lane, (t, 1)), plain.shown(lane, (t, 1)))
                    self.assertEqual(seeker.opened(), plain.opened())
                    self.assertIs(seeker.seeks(), plain.seeking)

    def test_what_is_told_behind_giving_up(self):
        row = file_by_hand(FILM, 1)
        place = place_of(row, 0, 0)
        changed = list(row)
        changed[place + 6] ^= 1
        seeker = Seeker(changed)
        self.assertEqual(seeker.shown(0, (5, 1)), ("blank",))
        self.assertEqual(seeker.shown(0, (0, 1)), ("leaf", 2, (3, 4)))
        self.assertIs(seeker.seeks(), True)
        # Leaf 3 hangs on the torn one; from here on a lost leaf makes gaps unknown.
        self.assertEqual(seeker.shown(0, (2, 1)), ("leaf", 3, (None, 9)))
        self.assertIs(seeker.seeks(), False)
        self.assertEqual(seeker.opened(), starts(changed))
        self.assertEqual(seeker.shown(0, (5, 1)), ("unknown",))
        self.assertEqual(seeker.shown(0, (10, 1)), ("unknown",))
        self.assertEqual(seeker.shown(0, (15, 1)), ("blank",))
        self.assert_gave_up(changed, seeker)

    def test_by_chance(self):
        for seed in range(60):
            chance = dice(seed)
            told_film = some_film(seed, 2, 6)
            row = write(film_of(told_film), chance.randint(1, 3))
            for turn in range(chance.randint(1, 2)):
                at = chance.randrange(len(row))
                row[at:at + chance.choice((1, 1, 9, 40))] = [chance.randrange(256)] * chance.choice((1, 1, 0, 9))
            seeker, plain = Seeker(row), PlainSeeker(row)
            for turn in range(12):
                lane = chance.randrange(len(told_film[2]))
                t = told(chance.choice(probes(ends(told_film[2][lane][2]))))
                right = plain.shown(lane, t)
                if right is None:
                    with self.assertRaises(NoHead):
                        seeker.shown(lane, t)
                else:
                    self.assertEqual(seeker.shown(lane, t), right)
                self.assertEqual(seeker.opened(), plain.opened())
                self.assertIs(seeker.seeks(), plain.seeking)


if __name__ == "__main__":
    unittest.main()
