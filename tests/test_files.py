"""Files, point 34."""

import unittest
from fractions import Fraction

from lanescroll.boxes import boxes_in
from lanescroll.errors import NoFile, NoMany
from lanescroll.files import read, write
from lanescroll.films import film_of
from tests.byhand import file_by_hand, file_of, head_box, head_of, index_box, ordered_by_hand, piece_box, pieces_by_hand
from tests.oracle import dice, edit, some_film
from tests.things import no_rows, wrong_whole

LEAVES = [
    ("full", 0, 4, (0, 0)), ("still", 4, 2, 1), ("woven", 8, 3, (("moved", 2, 1, 255), ("mixed", 1, 0, 2, 1))),
    ("full", 6, 2, (0, 1)), ("still", 30, 2, 4),
]
FILM = (0, 2, [(2, LEAVES, [edit(3, 0, 1), edit(1), edit(Fraction(2, 3), 1, Fraction(1, 2))]), (3, LEAVES[:1], [])])
PLAIN = (300, 1, [(1, [], [])])
ONE = (10 ** 9, 16, [(10 ** 6, [("full", 10 ** 9, 10 ** 9, tuple(range(16)))], [edit(1, 0, 0)])])


def chain(many):
    """A film as told of one lane, each leaf but the first on the one ahead."""
    leaves = [("full", 0, 3, (7,))] + [("still", 3 * number, 2, 1) for number in range(1, many)]
    return (5, 1, [(7, leaves, [edit(9, 0, 1)])])


class Write(unittest.TestCase):
    def assert_file(self, told_film, many):
        row = write(film_of(told_film), many)
        self.assertIs(type(row), list)
        self.assertEqual(row, file_by_hand(told_film, many))
        self.assertEqual(read(row), film_of(told_film))
        return row

    def test_written_out(self):
        row = self.assert_file(PLAIN, 8)
        head = head_box((300, 1, [(1, 0, [])]))
        self.assertEqual(row, head + head + index_box((300, [])))
        row = self.assert_file(ONE, 8)
        head = head_box(head_of(ONE))
        index = index_box((10 ** 9, [(0, 0, 1, 10 ** 9, 2 * 10 ** 9, len(head))]))
        self.assertEqual(row, head + piece_box((10 ** 9, 0, 0, ONE[2][0][1])) + head + index)

    def test_every_count(self):
        film = film_of(FILM)
        for many in list(range(1, 8)) + [8, 9, 100, 199, 200]:
            self.assert_file(FILM, many)
        self.assertEqual(write(film), file_by_hand(FILM, 8))
        self.assertEqual(write(film), write(film, 200))
        self.assertEqual(write(film_of(chain(30))), file_by_hand(chain(30), 8))
        self.assertEqual(write(many=2, film=film), file_by_hand(FILM, 2))

    def test_two_hundred_leaves(self):
        told_film = chain(200)
        for many in (1, 2, 3, 8, 99, 100, 199, 200):
            self.assert_file(told_film, many)

    def test_every_count_of_a_long_film(self):
        film = film_of(chain(30))
        rows = [write(film, many) for many in range(1, 201)]
        for row in rows:
            self.assertEqual(read(row), film)
        self.assertEqual(len({tuple(row) for row in rows}), 30)

    def test_by_chance(self):
        for seed in range(60):
            self.assert_file(some_film(seed, 4, 8), dice(seed).randint(1, 5))

    def test_the_greatest_film(self):
        rules = tuple([("mixed", 150, cell, 150, 15) for cell in range(16)])
        leaves = [("full", number, 1, (255,) * 16) for number in range(150)]
        leaves += [("woven", 10 ** 9 - number, 1, rules) for number in range(150, 200)]
        edits = [edit(Fraction(10 ** 30, 10 ** 30 - 1 - 2 * k), Fraction(10 ** 30 - 1, 10 ** 30), Fraction(1, 10 ** 30))
                 for k in range(60)]
        told_film = (10 ** 9, 16, [(10 ** 6, leaves, edits)] * 8)
        film = film_of(told_film)
        for many in (1, 200):
            row = write(film, many)
            self.assertEqual(read(row), film)
            self.assertEqual(len(boxes_in(row)), 3 + (1600 if many == 1 else 8))

    def test_no_many(self):
        for told_film in (FILM, PLAIN):
            for wrong in wrong_whole(1, 200):
                with self.assertRaises(NoMany):
                    write(film_of(told_film), wrong)

    def test_lists_told_changed_by_the_asker(self):
        film = film_of(FILM)
        write(film).clear()
        self.assertEqual(write(film), file_by_hand(FILM, 8))
        self.assertEqual(film.told(), FILM)


class Read(unittest.TestCase):
    def assert_none(self, row):
        with self.assertRaises(NoFile):
            read(row)

    def test_no_rows(self):
        for wrong in no_rows() + [tuple(write(film_of(PLAIN))), [0] * 100000 + [None]]:
            self.assert_none(wrong)

    def test_rows_without_a_file(self):
        row = write(film_of(FILM))
        for wrong in ([], [0], [0, 0, 1], [7] * 50, row + [0], [0] + row, row + row, row[:-1], row[1:],
                      row + [0, 0, 1]):
            self.assert_none(wrong)

    def test_each_byte_changed_left_out_or_put_in(self):
        for told_film, many in ((PLAIN, 8), (FILM, 2)):
            row = write(film_of(told_film), many)
            for at in range(len(row) + 1):
                self.assert_none(row[:at] + [(at * 7) % 256] + row[at:])
                if at < len(row):
                    self.assert_none(row[:at] + row[at + 1:])
                    for byte in (row[at] ^ 1, row[at] ^ 128, (row[at] + 7) % 256):
                        self.assert_none(row[:at] + [byte] + row[at + 1:])
            self.assertEqual(read(row), film_of(told_film))

    def test_boxes_in_another_order(self):
        row = write(film_of(FILM), 2)
        places = [at for at, kind, body in boxes_in(row)] + [len(row)]
        parts = [row[low:high] for low, high in zip(places, places[1:])]
        self.assertEqual(len(parts), 7)
        for one in range(len(parts)):
            self.assert_none(sum(parts[:one] + parts[one + 1:], []))
            self.assert_none(sum(parts[:one] + [parts[one]] + parts[one:], []))
            for other in range(one):
                if parts[one] != parts[other]:
                    changed = list(parts)
                    changed[one], changed[other] = parts[other], parts[one]
                    self.assert_none(sum(changed, []))

    def test_pieces_in_another_order_with_an_index_for_it(self):
        right = ordered_by_hand(FILM, pieces_by_hand(FILM, 2))
        self.assertEqual(read(file_of(head_of(FILM), right)), film_of(FILM))
        for one in range(len(right)):
            for other in range(one):
                changed = list(right)
                changed[one], changed[other] = right[other], right[one]
                self.assert_none(file_of(head_of(FILM), changed))

    def test_pieces_of_another_count(self):
        seal, wide, lanes = chain(6)
        leaves = lanes[0][1]
        for cuts in ([0, 1, 3, 5], [0, 2, 3, 5], [0, 2, 4, 5], [0, 3, 5], [0, 1], [0, 5], [0, 4], [0, 1, 2, 3, 4]):
            runs = [(seal, 0, low, leaves[low:high]) for low, high in zip(cuts, cuts[1:] + [6])]
            row = file_of(head_of(chain(6)), ordered_by_hand(chain(6), runs))
            if cuts in ([0, 5], [0, 4]):
                # Runs of five or four and a shorter one: these are files.
                self.assertEqual(read(row), film_of(chain(6)))
            else:
                self.assert_none(row)

    def test_pieces_twice(self):
        right = ordered_by_hand(FILM, pieces_by_hand(FILM, 2))
        for one in range(len(right)):
            self.assert_none(file_of(head_of(FILM), right[:one + 1] + right[one:]))
            self.assert_none(file_of(head_of(FILM), right[:one] + right[one + 1:]))

    def test_what_is_no_film(self):
        head = (4, 1, [(1, 2, [])])
        together = [(4, 0, 0, [("full", 0, 2, (1,)), ("full", 1, 2, (1,))])]
        self.assert_none(file_of(head, together))
        for leaves in ([("full", 0, 2, (1,)), ("full", 2, 2, (1, 2))], [("still", 0, 2, 1), ("full", 2, 2, (1,))]):
            self.assert_none(file_of(head, [(4, 0, 0, leaves)]))
        right = [("full", 0, 2, (1,)), ("full", 2, 2, (1,))]
        self.assertEqual(read(file_of(head, [(4, 0, 0, right)])), film_of((4, 1, [(1, right, [])])))
        for piece in ((5, 0, 0, right), (4, 1, 0, right), (4, 0, 1, right), (4, 0, 0, right + right)):
            self.assert_none(file_of(head, [piece]))

    def test_other_heads_and_indexes(self):
        pieces = ordered_by_hand(FILM, pieces_by_hand(FILM, 2))
        row = write(film_of(FILM), 2)
        head = head_box(head_of(FILM))
        other = head_box(head_of((1,) + FILM[1:]))
        index = row[boxes_in(row)[-1][0]:]
        body = row[len(head):-len(head) - len(index)]
        self.assertEqual(head + body + head + index, row)
        for wrong in (other + body + head + index, head + body + other + index, other + body + other + index,
                      head + body + index, body + head + index, head + body + head, head + body + head + index + index,
                      index + body + head + index, head + body + index + head):
            self.assert_none(wrong)
        self.assert_none(file_of(head_of((1,) + FILM[1:]), pieces))

    def test_the_row_stays_and_may_be_changed(self):
        row = write(film_of(FILM))
        before = list(row)
        film = read(row=row)
        self.assertEqual(row, before)
        row.clear()
        self.assertEqual(film.told(), FILM)

    def test_long_rows(self):
        self.assert_none([0, 0, 1] * 100000)
        self.assert_none(write(film_of(FILM)) + [1] * 500000)


if __name__ == "__main__":
    unittest.main()
