"""Bodies of heads, pieces and indexes, points 29 to 31."""

import copy
import unittest
from fractions import Fraction

from lanescroll.bodies import HEAD, INDEX, PIECE, head_body, index_body, piece_body, read_head, read_index, read_piece
from lanescroll.boxes import box, box_at
from lanescroll.errors import NoBody
from tests.byhand import numbers_row
from tests.oracle import dice, edit, some_edits, some_leaf
from tests.things import anything, no_rows, wrong_whole

EDITS = [edit(3, 0, 1), edit(Fraction(1, 300)), edit(2, Fraction(1, 3), Fraction(5, 2))]
RULES = (("plain", 255), ("moved", 200, 15, 130), ("mixed", 1, 2, 128, 4))
LEAVES = [("full", 300, 5, (1, 200)), ("still", 6, 10 ** 9, 199), ("woven", 0, 1, RULES)]
HEADS = (300, 2, [(25, 200, EDITS), (1, 0, [])])
PIECES = (0, 7, 199, LEAVES)
ROWS = [(0, 0, 8, 0, 10 ** 9, 0), (7, 199, 200, 10 ** 9, 2 * 10 ** 9, 10 ** 6)]
INDEXES = (10 ** 9, ROWS)
KINDS = ((HEADS, head_body, read_head), (PIECES, piece_body, read_piece), (INDEXES, index_body, read_index))


def row_numbers(row):
    """The numbers of which a body is made."""
    found, number = [], 0
    for byte in row:
        number = number * 128 + byte % 128
        if byte < 128:
            found.append(number)
            number = 0
    return found


def with_part(thing, place, part):
    """A tuple or list with another part in one place."""
    changed = list(thing)
    changed[place] = part
    return tuple(changed) if isinstance(thing, tuple) else changed


def no_tuples(right):
    """Things that are none, in the place of a tuple that is right."""
    return anything() + [list(right), right[:-1], right + (0,), (right,), [right]]


class BodyCase(unittest.TestCase):
    def assert_none(self, deed, thing):
        with self.assertRaises(NoBody):
            deed(thing)

    def assert_round(self, thing, write, read):
        body = write(thing)
        self.assertIs(type(body), list)
        self.assertLessEqual(len(body), 60000)
        found = read(body)
        self.assertEqual(found, thing)
        self.assert_same_forms(found, thing)
        return body

    def assert_same_forms(self, found, thing):
        self.assertIs(type(found), type(thing))
        if isinstance(thing, (tuple, list)):
            for part, other in zip(found, thing):
                self.assert_same_forms(part, other)

    def assert_places(self, thing, write, read, paths):
        """Each number at both ends of its range is right, and beyond it, or another thing, is none."""
        for path, (low, high) in paths:
            for number in (low, high):
                self.assert_round(placed(thing, path, number), write, read)
            for wrong in wrong_whole(low, high):
                self.assert_none(write, placed(thing, path, wrong))


def placed(thing, path, part):
    """A thing with another part at the end of a path of places."""
    if not path:
        return part
    return with_part(thing, path[0], placed(thing[path[0]], path[1:], part))


class Kinds(unittest.TestCase):
    def test_numbers(self):
        self.assertEqual((HEAD, PIECE, INDEX), (1, 2, 3))
        self.assertEqual([type(kind) for kind in (HEAD, PIECE, INDEX)], [int, int, int])

    def test_bodies_in_boxes(self):
        for kind, (thing, write, read) in zip((HEAD, PIECE, INDEX), KINDS):
            row = box(kind, write(thing))
            self.assertEqual(read(box_at(row)[1]), thing)


class Written(BodyCase):
    def test_head_by_hand(self):
        right = [300, 2, 2, 25, 200, 3, 3, 1, 1, 0, 1, 1, 1, 1, 300, 0, 2, 1, 1, 1, 3, 5, 2, 1, 0, 0]
        self.assertEqual(head_body(HEADS), numbers_row(right))

    def test_piece_by_hand(self):
        right = [0, 7, 199, 3, 0, 300, 5, 2, 1, 200, 1, 6, 10 ** 9, 199,
                 2, 0, 1, 3, 0, 255, 1, 200, 15, 130, 2, 1, 2, 128, 4]
        self.assertEqual(piece_body(PIECES), numbers_row(right))

    def test_index_by_hand(self):
        right = [10 ** 9, 2, 0, 0, 8, 0, 10 ** 9, 0, 7, 199, 200, 10 ** 9, 2 * 10 ** 9, 10 ** 6]
        self.assertEqual(index_body(INDEXES), numbers_row(right))
        self.assertEqual(index_body((5, [])), [5, 0])

    def test_there_and_back(self):
        for thing, write, read in KINDS:
            self.assert_round(thing, write, read)

    def test_by_chance(self):
        for seed in range(60):
            chance = dice(seed)
            lanes = [(chance.randint(1, 10 ** 6), chance.randint(0, 200), some_edits(chance))
                     for lane in range(chance.randint(1, 8))]
            self.assert_round((chance.randrange(10 ** 9), chance.randint(1, 16), lanes), head_body, read_head)
            wide = chance.randint(1, 16)
            leaves = [some_leaf(chance, number, wide, chance.randrange(10 ** 9), chance.randint(1, 10 ** 9))
                      for number in range(chance.randint(1, 9))]
            self.assert_round((seed, chance.randint(0, 7), chance.randint(0, 199), leaves), piece_body, read_piece)
            rows = [(chance.randint(0, 7), chance.randint(0, 199), chance.randint(1, 200), chance.randrange(10 ** 9),
                     chance.randint(1, 2 * 10 ** 9), chance.randrange(10 ** 6)) for row in range(chance.randint(0, 9))]
            self.assert_round((seed, rows), index_body, read_index)

    def test_arguments_by_their_names(self):
        self.assertEqual(read_head(body=head_body(head=HEADS)), HEADS)
        self.assertEqual(read_piece(body=piece_body(piece=PIECES)), PIECES)
        self.assertEqual(read_index(body=index_body(index=INDEXES)), INDEXES)

    def test_what_is_handed_in_stays_and_lists_are_new(self):
        for thing, write, read in KINDS:
            handed = copy.deepcopy(thing)
            body = write(handed)
            before = list(body)
            found = read(body)
            self.assertEqual((handed, body), (thing, before))
            found[-1].append(None)
            write(handed).append(0)
            self.assertEqual((read(body), write(handed)), (thing, before))
        found = read_head(head_body(HEADS))
        found[2][0][2].clear()
        self.assertEqual(read_head(head_body(HEADS)), HEADS)


class Heads(BodyCase):
    def test_numbers(self):
        self.assert_places(HEADS, head_body, read_head, (
            ((0,), (0, 10 ** 9)), ((1,), (1, 16)), ((2, 0, 0), (1, 10 ** 6)), ((2, 1, 0), (1, 10 ** 6)),
            ((2, 0, 1), (0, 200)), ((2, 1, 1), (0, 200)),
        ))

    def test_how_many_lanes(self):
        for many in (1, 8):
            self.assert_round((1, 1, [(1, 1, [])] * many), head_body, read_head)
        for many in (0, 9, 300):
            self.assert_none(head_body, (1, 1, [(1, 1, [])] * many))

    def test_how_many_edits(self):
        for many in (0, 60):
            self.assert_round((1, 1, [(1, 1, [edit(1, 0, 1)] * many)]), head_body, read_head)
        for many in (61, 300):
            self.assert_none(head_body, (1, 1, [(1, 1, [edit(1, 0, 1)] * many)]))

    def test_tops_and_bottoms(self):
        for number, right in ((10 ** 30, True), (10 ** 30 + 1, False)):
            for wanted in (edit(number), edit(Fraction(1, number)), edit(1, number, 0), edit(1, Fraction(1, number), 0),
                           edit(1, 0, number), edit(1, 0, Fraction(1, number))):
                head = (1, 1, [(1, 1, EDITS + [wanted])])
                if right:
                    self.assert_round(head, head_body, read_head)
                else:
                    self.assert_none(head_body, head)

    def test_parts_that_are_none(self):
        for wrong in no_tuples(HEADS):
            self.assert_none(head_body, wrong)
        for lane in (0, 1):
            for wrong in no_tuples(HEADS[2][lane]):
                self.assert_none(head_body, placed(HEADS, (2, lane), wrong))
        for wrong in [tuple(HEADS[2]), None, 1, {}, HEADS[2][0]]:
            self.assert_none(head_body, placed(HEADS, (2,), wrong))
        for wrong in [tuple(EDITS), None, 1, EDITS[0], [None], EDITS + [()], [((2, 2), None, (0, 1))],
                      [((1, 1), None, (1, 1))], [((0, 1), (0, 1), (1, 1))]]:
            self.assert_none(head_body, placed(HEADS, (2, 0, 2), wrong))

    def test_the_longest(self):
        number = 10 ** 30
        wanted = ((number, number - 1), (number - 1, number), (number - 1, number))
        self.assert_round((10 ** 9, 16, [(10 ** 6, 200, [wanted] * 60)] * 8), head_body, read_head)


class Pieces(BodyCase):
    def test_numbers(self):
        self.assert_places(PIECES, piece_body, read_piece, (
            ((0,), (0, 10 ** 9)), ((1,), (0, 7)), ((2,), (0, 199)),
            ((3, 0, 1), (0, 10 ** 9)), ((3, 0, 2), (1, 10 ** 9)), ((3, 0, 3, 0), (0, 255)), ((3, 0, 3, 1), (0, 255)),
            ((3, 1, 1), (0, 10 ** 9)), ((3, 1, 2), (1, 10 ** 9)), ((3, 1, 3), (1, 200)),
            ((3, 2, 1), (0, 10 ** 9)), ((3, 2, 2), (1, 10 ** 9)),
            ((3, 2, 3, 0, 1), (0, 255)),
            ((3, 2, 3, 1, 1), (1, 200)), ((3, 2, 3, 1, 2), (0, 15)), ((3, 2, 3, 1, 3), (0, 255)),
            ((3, 2, 3, 2, 1), (1, 200)), ((3, 2, 3, 2, 2), (0, 15)), ((3, 2, 3, 2, 3), (1, 200)),
            ((3, 2, 3, 2, 4), (0, 15)),
        ))

    def test_how_many_leaves(self):
        for many in (1, 200):
            for first in (0, 1, 199):
                self.assert_round((1, 0, first, [LEAVES[0]] * many), piece_body, read_piece)
        for many in (0, 201, 300):
            self.assert_none(piece_body, (1, 0, 0, [LEAVES[0]] * many))

    def test_how_many_cells(self):
        for many in (1, 16):
            self.assert_round((1, 0, 0, [("full", 0, 1, (0,) * many)]), piece_body, read_piece)
            self.assert_round((1, 0, 0, [("woven", 0, 1, (("plain", 0),) * many)]), piece_body, read_piece)
        for many in (0, 17):
            self.assert_none(piece_body, (1, 0, 0, [("full", 0, 1, (0,) * many)]))
            self.assert_none(piece_body, (1, 0, 0, [("woven", 0, 1, (("plain", 0),) * many)]))

    def test_leaves_that_would_fit_no_lane(self):
        self.assert_round((1, 0, 0, [("still", 0, 1, 200)]), piece_body, read_piece)
        self.assert_round((1, 0, 0, [("full", 0, 9, (1,)), ("full", 5, 9, (1, 2))]), piece_body, read_piece)
        self.assert_round((1, 0, 0, [("woven", 0, 1, (("moved", 200, 15, 0),))]), piece_body, read_piece)

    def test_parts_that_are_none(self):
        for wrong in no_tuples(PIECES):
            self.assert_none(piece_body, wrong)
        for wrong in [tuple(LEAVES), None, 1, {}, LEAVES[0]]:
            self.assert_none(piece_body, placed(PIECES, (3,), wrong))
        for number in range(3):
            for wrong in no_tuples(LEAVES[number]):
                self.assert_none(piece_body, placed(PIECES, (3, number), wrong))
        for wrong in [list(RULES), RULES + (None,), (("plain",),), None, 1, (list(RULES[0]),)]:
            self.assert_none(piece_body, placed(PIECES, (3, 2, 3), wrong))
        for wrong in [[1, 2], (1, None), None, 1, (True,), ((1,),)]:
            self.assert_none(piece_body, placed(PIECES, (3, 0, 3), wrong))

    def test_the_longest(self):
        leaf = ("woven", 10 ** 9, 10 ** 9, (("mixed", 200, 15, 200, 15),) * 16)
        self.assert_round((10 ** 9, 7, 199, [leaf] * 200), piece_body, read_piece)


class Indexes(BodyCase):
    def test_numbers(self):
        bounds = ((0, 7), (0, 199), (1, 200), (0, 10 ** 9), (1, 2 * 10 ** 9), (0, 10 ** 6))
        paths = [((0,), (0, 10 ** 9))]
        paths += [((1, row, place), ends) for row in (0, 1) for place, ends in enumerate(bounds)]
        self.assert_places(INDEXES, index_body, read_index, paths)

    def test_how_many_rows(self):
        for many in (0, 1, 301, 1599, 1600):
            self.assert_round((10 ** 9, ROWS[1:] * many), index_body, read_index)
        for many in (1601, 5000):
            self.assert_none(index_body, (0, ROWS[:1] * many))
        self.assert_none(index_body, (0, ROWS[:1] * 1599 + [None]))

    def test_parts_that_are_none(self):
        for wrong in no_tuples(INDEXES):
            self.assert_none(index_body, wrong)
        for wrong in [tuple(ROWS), None, 1, {}, ROWS[0]]:
            self.assert_none(index_body, placed(INDEXES, (1,), wrong))
        for row in (0, 1):
            for wrong in no_tuples(ROWS[row]):
                self.assert_none(index_body, placed(INDEXES, (1, row), wrong))

    def test_rows_that_no_file_has(self):
        self.assert_round((0, [(0, 0, 1, 10 ** 9, 1, 0)] * 2), index_body, read_index)


class Read(BodyCase):
    def test_what_is_no_row(self):
        for thing, write, read in KINDS:
            for wrong in no_rows() + [[], [0], [255] * 100, [0] * 100, [128] * 100]:
                self.assert_none(read, wrong)

    def test_bodies_of_the_others(self):
        for thing, write, read in KINDS:
            for other, other_write, other_read in KINDS:
                if other is not thing:
                    self.assert_none(read, other_write(other))

    def test_a_byte_more_and_a_byte_less(self):
        for thing, write, read in KINDS:
            body = write(thing)
            for byte in (0, 1, 127, 128, 255):
                self.assert_none(read, body + [byte])
            for at in range(len(body)):
                self.assert_none(read, body[:at])
                self.assert_read_as_written(body[:at] + body[at + 1:], write, read)
                self.assert_read_as_written(body[:at] + [0] + body[at:], write, read)

    def assert_read_as_written(self, body, write, read):
        """The body is refused, or what is read of it is written so."""
        try:
            found = read(body)
        except NoBody:
            return False
        self.assertEqual(write(found), body)
        return True

    def test_each_byte_changed(self):
        for thing, write, read in KINDS:
            body = write(thing)
            told = 0
            for at in range(len(body)):
                for byte in (0, 1, 2, 3, 127, 128, 129, 200, 255, body[at] ^ 1):
                    if byte != body[at]:
                        told += self.assert_read_as_written(with_part(body, at, byte), write, read)
            self.assertGreater(told, 0)

    def test_each_number_changed_exchanged_or_left_out(self):
        for thing, write, read in KINDS:
            numbers = row_numbers(write(thing))
            for at in range(len(numbers)):
                changed = [numbers[:at] + numbers[at + 1:], numbers[:at] + [numbers[at]] + numbers[at:]]
                for number in (0, 1, 2, 3, 16, 201, 10 ** 9 + 1, 10 ** 60, numbers[at] + 1, max(0, numbers[at] - 1)):
                    changed.append(numbers[:at] + [number] + numbers[at + 1:])
                for other in range(at):
                    swapped = list(numbers)
                    swapped[at], swapped[other] = swapped[other], swapped[at]
                    changed.append(swapped)
                for wrong in changed:
                    if wrong != numbers:
                        self.assert_read_as_written(numbers_row(wrong), write, read)

    def test_each_number_beyond_its_range(self):
        numbers = row_numbers(head_body(HEADS))
        for at, wrong in ((0, 10 ** 9 + 1), (1, 0), (1, 17), (2, 0), (2, 9), (3, 0), (3, 10 ** 6 + 1), (4, 201),
                          (5, 61), (6, 0), (7, 0), (8, 2), (9, 3 + 10 ** 30), (10, 0), (13, 2), (15, 2), (18, 2)):
            self.assert_none(read_head, numbers_row(with_part(numbers, at, wrong)))
        numbers = row_numbers(piece_body(PIECES))
        for at, wrong in ((0, 10 ** 9 + 1), (1, 8), (2, 200), (3, 0), (3, 201), (4, 3), (5, 10 ** 9 + 1), (6, 0),
                          (6, 10 ** 9 + 1), (7, 0), (7, 17), (8, 256), (10, 3), (13, 0), (13, 201), (14, 3), (17, 17),
                          (18, 3), (19, 256), (21, 0), (21, 201), (22, 16), (23, 256), (25, 0), (26, 16), (27, 201)):
            self.assert_none(read_piece, numbers_row(with_part(numbers, at, wrong)))
        numbers = row_numbers(index_body(INDEXES))
        for at, wrong in ((0, 10 ** 9 + 1), (1, 1601), (2, 8), (3, 200), (4, 0), (4, 201), (5, 10 ** 9 + 1), (6, 0),
                          (6, 2 * 10 ** 9 + 1), (7, 10 ** 6 + 1)):
            self.assert_none(read_index, numbers_row(with_part(numbers, at, wrong)))

    def test_fractions_that_are_none(self):
        for span in ((2, 2), (0, 1), (1, 0), (2, 4)):
            self.assert_none(read_head, numbers_row([1, 1, 1, 1, 0, 1, *span, 0]))
            self.assert_none(read_head, numbers_row([1, 1, 1, 1, 0, 1, *span, 1, 0, 1, 1, 1]))
        for wrong in ((2, 2), (0, 2), (1, 0)):
            self.assert_none(read_head, numbers_row([1, 1, 1, 1, 0, 1, 1, 1, 1, *wrong, 1, 1]))
            self.assert_none(read_head, numbers_row([1, 1, 1, 1, 0, 1, 1, 1, 1, 0, 1, *wrong]))
        right = (1, 1, [(1, 0, [edit(1, 0, 1)])])
        self.assertEqual(read_head(numbers_row([1, 1, 1, 1, 0, 1, 1, 1, 1, 0, 1, 1, 1])), right)

    def test_lists_of_too_many_things(self):
        self.assert_none(read_head, numbers_row([1, 1, 9] + [1, 0, 0] * 9))
        self.assert_none(read_head, numbers_row([1, 1, 1, 1, 0, 61] + [1, 1, 0] * 61))
        self.assert_none(read_head, numbers_row([1, 1, 0]))
        self.assert_none(read_piece, numbers_row([1, 0, 0, 0]))
        self.assert_none(read_piece, numbers_row([1, 0, 0, 201] + [1, 0, 1, 1] * 201))
        self.assert_none(read_piece, numbers_row([1, 0, 0, 1, 0, 0, 1, 17] + [0] * 17))
        self.assert_none(read_piece, numbers_row([1, 0, 0, 1, 0, 0, 1, 0]))
        self.assert_none(read_piece, numbers_row([1, 0, 0, 1, 2, 0, 1, 17] + [0, 0] * 17))
        self.assert_none(read_piece, numbers_row([1, 0, 0, 1, 2, 0, 1, 0]))
        self.assert_none(read_index, numbers_row([1, 1601] + [0, 0, 1, 0, 1, 0] * 1601))
        for many in (10 ** 60, 10 ** 19):
            self.assert_none(read_head, numbers_row([1, 1, many] + [1, 0, 0] * 300))
            self.assert_none(read_head, numbers_row([1, 1, 1, 1, 0, many] + [1, 1, 0] * 300))
            self.assert_none(read_piece, numbers_row([1, 0, 0, many] + [1, 0, 1, 1] * 300))
            self.assert_none(read_piece, numbers_row([1, 0, 0, 1, 0, 0, 1, many] + [0] * 300))
            self.assert_none(read_piece, numbers_row([1, 0, 0, 1, 2, 0, 1, many] + [0, 0] * 300))
            self.assert_none(read_index, numbers_row([1, many] + [0, 0, 1, 0, 1, 0] * 300))

    def test_numbers_written_otherwise(self):
        for thing, write, read in KINDS:
            body = write(thing)
            starts = [at for at in range(len(body)) if at == 0 or body[at - 1] < 128]
            for at in starts:
                self.assert_none(read, body[:at] + [128] + body[at:])
                self.assert_none(read, body[:at] + [128, 128] + body[at:])
        self.assert_none(read_index, [5, 128])
        self.assert_none(read_index, [255] * 28 + [127, 0])

    def test_long_rows(self):
        for thing, write, read in KINDS:
            self.assert_none(read, write(thing) + [0] * 200000)
            self.assert_none(read, [1] * 200000)


if __name__ == "__main__":
    unittest.main()
