"""Boxes and feeds, points 26 to 28, and what point 3 promises of them."""

import unittest

from lanescroll.boxes import Feed, box, box_at, boxes_in
from lanescroll.errors import NoBytes, NoKind, NoPlace
from tests.byhand import box_by_hand
from tests.oracle import dice
from tests.things import no_rows, wrong_whole

BODIES = [
    [], [0], [1], [2], [255], [0, 0], [0, 0, 1], [0, 0, 1, 1], [0, 0, 2], [0, 0, 0], [1, 0, 0], [0] * 127, [0] * 128,
    [1] * 200, list(range(256)), [255] * 5, [0, 1] * 50, [0, 0, 1] * 40, [2, 0, 0, 2] * 9,
]


def body_with_sum(kind, wanted):
    """A body of a few bytes whose two sum bytes are as wanted."""
    chance = dice(kind)
    while True:
        body = [chance.randrange(256) for turn in range(3)]
        row = box_by_hand(kind, body)
        if wanted(row):
            return body


def found_by_hand(row):
    """All boxes in a row: each START, with each 255 behind it, is held against the box that it would be."""
    found = []
    for at in range(len(row) - 2):
        if row[at:at + 3] != [0, 0, 1]:
            continue
        for end in range(at + 4, len(row)):
            if row[end] == 255:
                for body in bodies_between(row[at + 4:end]):
                    if 1 <= row[at + 3] <= 9 and box_by_hand(row[at + 3], body) == row[at:end + 1]:
                        found.append((at, row[at + 3], body))
    return found


def bodies_between(inner):
    """What the body may be, where the row stands between a box's kind and its last byte."""
    content, noughts = [], 0
    for byte in inner:
        if noughts == 2:
            noughts = 0
            continue
        content.append(byte)
        noughts = noughts + 1 if byte == 0 else 0
    return [content[ahead:-2] for ahead in (1, 2, 3) if len(content) >= ahead + 2]


class BoxCase(unittest.TestCase):
    def assert_found(self, row, right):
        """All that tells boxes tells just these, however the row comes."""
        self.assertEqual(boxes_in(row), right)
        feed = Feed()
        found = []
        for at, byte in enumerate(row):
            for told in feed.take([byte]):
                found.append(told)
                self.assertEqual(told[0] + len(box_by_hand(*told[1:])), at + 1)
        self.assertEqual(found, right)
        places = {at: (kind, body) for at, kind, body in right}
        for at in range(len(row) + 1):
            told = box_at(row, at)
            if at in places:
                kind, body = places[at]
                self.assertEqual(told, (kind, body, at + len(box_by_hand(kind, body))))
            else:
                self.assertIs(told, None)


class Box(BoxCase):
    def test_by_hand(self):
        self.assertEqual(box(1, []), [0, 0, 1, 1, 0, 1, 2, 255])
        for kind in range(1, 10):
            for body in BODIES:
                row = box(kind, body)
                self.assertIs(type(row), list)
                self.assertEqual(row, box_by_hand(kind, body))
                self.assertEqual(box_at(row), (kind, body, len(row)))
                self.assertEqual(boxes_in(row), [(0, kind, body)])

    def test_a_start_stands_at_the_begin_alone(self):
        for body in BODIES:
            row = box(1, body)
            self.assertEqual([at for at in range(len(row)) if row[at:at + 3] == [0, 0, 1]], [0])

    def test_kinds(self):
        for wrong in wrong_whole(1, 9):
            for body in ([], [1], None, [256], [0] * 60001):
                with self.assertRaises(NoKind):
                    box(wrong, body)

    def test_bodies(self):
        for wrong in no_rows():
            with self.assertRaises(NoBytes):
                box(1, wrong)
        for wrong in ([0] * 60001, [255] * 60001, [1] * 100000):
            with self.assertRaises(NoBytes):
                box(9, wrong)

    def test_the_longest_bodies(self):
        for body in ([0] * 60000, [255] * 60000, [0, 0, 1] * 20000, [7] * 59999, [3] * 16383, [3] * 16384):
            row = box(9, body)
            self.assertEqual(row, box_by_hand(9, body))
            self.assertEqual(box_at(row), (9, body, len(row)))
            self.assertEqual(boxes_in([0] + row + [0, 0, 1]), [(1, 9, body)])
        long = box_by_hand(9, [7] * 60001)
        self.assertIs(box_at(long), None)
        self.assertEqual(boxes_in(long), [])

    def test_a_sum_that_ends_in_noughts(self):
        # The last bytes of the content are two noughts, so a 2 stands ahead of 255.
        for wanted in (lambda row: row[-4:] == [0, 0, 2, 255], lambda row: row[-2:] == [0, 255],
                       lambda row: row[-3] == 0 and row[-2] != 0):
            body = body_with_sum(4, wanted)
            row = box(4, body)
            self.assertTrue(wanted(row))
            self.assertEqual(row, box_by_hand(4, body))
            self.assert_found(row, [(0, 4, body)])
            self.assert_found(row[:-1], [])
        row = box(4, body_with_sum(4, lambda row: row[-4:] == [0, 0, 2, 255]))
        for end in ([255], [3, 255], [2, 2, 255], [0, 2, 255], [255, 255], [2, 254]):
            self.assert_found(row[:-2] + end, [])

    def test_the_body_stays(self):
        body = [0, 0, 1]
        box(1, body)
        self.assertEqual(body, [0, 0, 1])
        box(kind=1, body=body).append(4)
        self.assertEqual(box(body=body, kind=1), box_by_hand(1, [0, 0, 1]))


class BoxAt(BoxCase):
    def test_every_place(self):
        row = [5, 0] + box(3, [0, 0, 1]) + [0, 0] + box(4, []) + [1]
        self.assert_found(row, [(2, 3, [0, 0, 1]), (len(row) - 1 - len(box(4, [])), 4, [])])

    def test_refusals_in_their_order(self):
        for wrong in no_rows():
            for at in (0, -1, None):
                with self.assertRaises(NoBytes):
                    box_at(wrong, at)
            with self.assertRaises(NoBytes):
                boxes_in(wrong)
        row = box(1, [1])
        for wrong in wrong_whole(0, len(row)):
            with self.assertRaises(NoPlace):
                box_at(row, wrong)
        self.assertIs(box_at(row, len(row)), None)
        self.assertIs(box_at([]), None)
        with self.assertRaises(NoPlace):
            box_at([], 1)

    def test_arguments_by_their_names(self):
        row = [0] + box(2, [7])
        self.assertEqual(box_at(at=1, row=row), (2, [7], len(row)))
        self.assertIs(box_at(row=row), None)
        self.assertEqual(boxes_in(row=row), [(1, 2, [7])])

    def test_lists_told_changed_by_the_asker(self):
        row = box(2, [7, 8])
        box_at(row)[1].append(1)
        boxes_in(row)[0][2].clear()
        boxes_in(row).clear()
        self.assertEqual(row, box_by_hand(2, [7, 8]))
        self.assertEqual(box_at(row), (2, [7, 8], len(row)))
        self.assertEqual(boxes_in(row), [(0, 2, [7, 8])])


class Torn(BoxCase):
    def test_each_byte_changed_left_out_or_put_in(self):
        for kind, body in ((1, []), (2, [0, 0, 1, 5]), (9, [0, 0, 0, 255, 2, 1]), (3, [0] * 6)):
            row = box(kind, body)
            behind = box(5, [6])
            for at in range(len(row)):
                torn_rows = [row[:at] + row[at + 1:]]
                for byte in (0, 1, 2, 9, 10, 127, 128, 255, row[at] ^ 1, row[at] ^ 128):
                    torn_rows.append(row[:at] + [byte] + row[at + 1:])
                    torn_rows.append(row[:at] + [byte] + row[at:])
                for torn in torn_rows:
                    self.assert_found(torn, found_by_hand(torn))
                    whole = torn + behind
                    self.assertEqual(boxes_in(whole), found_by_hand(whole))
                    self.assertIn((len(torn), 5, [6]), boxes_in(whole))

    def test_changed_bytes_make_it_none(self):
        row = box(2, [4, 5, 6, 7])
        for at in range(len(row)):
            for byte in range(256):
                if byte != row[at]:
                    self.assertEqual(boxes_in(row[:at] + [byte] + row[at + 1:]), [])

    def test_kinds_that_are_none(self):
        for kind in (0, 10, 11, 255):
            row = box_by_hand(kind, [5]) if kind else [0, 0, 1, 0] + box_by_hand(1, [5])[4:]
            self.assert_found(row, [])

    def test_broken_off(self):
        row = box(3, [0, 0, 1, 7, 7])
        for end in range(len(row)):
            self.assert_found(row[:end], [])
            self.assertEqual(boxes_in(row[:end] + row), [(end, 3, [0, 0, 1, 7, 7])])
            self.assert_found(row[end + 1:], [])

    def test_starts_beside_one_another(self):
        row = box(3, [1])
        for ahead in ([0], [0, 0], [0, 0, 0], [0, 0, 1], [0, 0, 1, 0], [0, 0, 1, 0, 0], [0, 0, 1] * 3, [0, 0, 1, 3],
                      [0, 0, 1, 3, 0], [0, 0, 1, 3, 0, 0], [0, 0, 1, 3, 1], [0, 0, 1, 3, 129], [0, 0, 1, 1, 1]):
            self.assert_found(ahead + row, [(len(ahead), 3, [1])])
            self.assert_found(ahead + row + ahead + row, [(len(ahead), 3, [1]), (2 * len(ahead) + len(row), 3, [1])])

    def test_a_box_within_a_body(self):
        inner = box(1, [5, 6])
        outer = box(2, inner)
        self.assert_found(outer, [(0, 2, inner)])
        self.assert_found(box(3, outer), [(0, 3, outer)])
        # Torn at its begin, the outer box is none, and the stuffed inner one stays none.
        self.assert_found([9] + outer[1:], [])
        # Put in without stuffing it breaks the outer one, and stands itself.
        half = outer[:6] + inner + outer[6:]
        self.assert_found(half, [(6, 1, [5, 6])])

    def test_lengths_written_otherwise(self):
        def with_length(length, kind, body):
            right = box_by_hand(kind, body)
            return right[:4] + length + right[5:]

        self.assertEqual(with_length([3], 1, [7, 8, 9]), box(1, [7, 8, 9]))
        for length in ([128, 3], [128, 128, 3], [2], [4], [131], [129, 3], [0], [255, 255, 255, 3], [131, 212, 97]):
            self.assert_found(with_length(length, 1, [7, 8, 9]), [])

    def test_by_chance(self):
        for seed in range(150):
            chance = dice(seed)
            row = []
            for turn in range(chance.randint(1, 4)):
                body = [chance.choice((0, 0, 0, 1, 2, 255, 7)) for byte in range(chance.randint(0, 9))]
                row += box(chance.randint(1, 9), body)
                row += [chance.choice((0, 0, 1, 2, 255)) for byte in range(chance.choice((0, 0, 1, 3)))]
            for turn in range(chance.randint(0, 3)):
                at = chance.randrange(len(row))
                row[at:at + chance.choice((0, 1, 1, 4))] = [chance.choice((0, 1, 2, 255))] * chance.choice((0, 1, 1, 2))
            self.assert_found(row, found_by_hand(row))

    def test_boxes_that_no_torn_byte_touches_are_found(self):
        rows = [box(kind, [kind, 0, 0, 1, kind]) for kind in range(1, 10)]
        for torn in range(9):
            for at in range(len(rows[torn])):
                row = [byte for number, part in enumerate(rows) for byte in (part[:at] if number == torn else part)]
                kinds = [kind for place, kind, body in boxes_in(row)]
                self.assertEqual(kinds, [kind for kind in range(1, 10) if kind != torn + 1])


class Feeding(BoxCase):
    ROW = [7, 0] + box(1, [0, 0, 1, 9]) + [0, 0, 1, 4, 2] + box(2, []) + box(3, [255, 0, 0]) + [0, 0]

    def test_at_once(self):
        feed = Feed()
        self.assertEqual(feed.taken(), 0)
        right = boxes_in(self.ROW)
        self.assertEqual([kind for at, kind, body in right], [1, 2, 3])
        self.assertEqual(feed.take(self.ROW), right)
        self.assertEqual(feed.taken(), len(self.ROW))

    def test_in_two_parts(self):
        right = boxes_in(self.ROW)
        for cut in range(len(self.ROW) + 1):
            feed = Feed()
            first = feed.take(self.ROW[:cut])
            self.assertEqual(feed.taken(), cut)
            self.assertEqual(first, boxes_in(self.ROW[:cut]))
            self.assertEqual(first + feed.take(self.ROW[cut:]), right)
            self.assertEqual(feed.taken(), len(self.ROW))

    def test_in_single_bytes_and_parts_without_bytes(self):
        feed, found = Feed(), []
        for at, byte in enumerate(self.ROW):
            self.assertEqual(feed.take([]), [])
            self.assertEqual(feed.taken(), at)
            found += feed.take([byte])
        self.assertEqual(found, boxes_in(self.ROW))

    def test_places_are_counted_in_all_bytes(self):
        feed, row = Feed(), box(4, [1, 2])
        for turn in range(5):
            self.assertEqual(feed.take(row), [(turn * len(row), 4, [1, 2])])
        self.assertEqual(feed.taken(), 5 * len(row))

    def test_several_boxes_in_one_part(self):
        row = box(4, [1]) + box(5, []) + box(6, [0, 0])
        feed = Feed()
        self.assertEqual(feed.take(row[:3]), [])
        self.assertEqual(feed.take(row[3:]), boxes_in(row))

    def test_two_feeds_by_turns(self):
        one, other = Feed(), Feed()
        first, second = box(1, [5] * 20), box(2, [6] * 20)
        found = [], []
        for byte, second_byte in zip(first, second):
            found[0].extend(one.take([byte]))
            found[1].extend(other.take([second_byte]))
        self.assertEqual(found, ([(0, 1, [5] * 20)], [(0, 2, [6] * 20)]))

    def test_parts_refused_in_between(self):
        row = box(4, [0, 0, 1, 1])
        wrongs = no_rows() + [row[:5] + [None], row + [256]]
        feed, found = Feed(), []
        for at, byte in enumerate(row):
            for wrong in wrongs:
                with self.assertRaises(NoBytes):
                    feed.take(wrong)
            self.assertEqual(feed.taken(), at)
            found += feed.take([byte])
        self.assertEqual(found, [(0, 4, [0, 0, 1, 1])])

    def test_parts_stay_and_lists_are_new(self):
        row = box(4, [1, 2])
        feed = Feed()
        part = list(row)
        found = feed.take(part=part)
        self.assertEqual(part, row)
        found[0][2].append(9)
        found.clear()
        part.clear()
        self.assertEqual(feed.take(row), [(len(row), 4, [1, 2])])
        feed.take(row[:5]).append(None)
        self.assertEqual(feed.take(row[5:]), [(2 * len(row), 4, [1, 2])])

    def test_a_part_changed_behind_the_call(self):
        row = box(4, [1, 2, 3])
        feed, part = Feed(), row[:6]
        feed.take(part)
        part[:] = [9] * 6
        self.assertEqual(feed.take(row[6:]), [(0, 4, [1, 2, 3])])

    def test_long_bodies_in_single_bytes(self):
        row = box(7, [0, 0, 1] * 20000)
        feed, found = Feed(), []
        for byte in row:
            found += feed.take([byte])
        self.assertEqual(found, [(0, 7, [0, 0, 1] * 20000)])

    def test_very_many_starts(self):
        row = [0, 0, 1, 2] * 50000
        self.assertEqual(boxes_in(row), [])
        self.assertEqual(boxes_in([0] * 200000), [])
        self.assertEqual(boxes_in(row + box(2, [1])), [(200000, 2, [1])])


if __name__ == "__main__":
    unittest.main()
