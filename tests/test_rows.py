"""Numbers in bytes, check and stuffing, points 24 and 25."""

import itertools
import unittest

from lanescroll.errors import NoBytes, NoNumber, NoPlace, NoStuffing
from lanescroll.rows import check, read_number, stuffed, unstuffed, written
from tests.oracle import dice
from tests.things import anything, no_numbers, wrong_whole

TOP = 10 ** 60
NUMBERS = sorted({
    number for power in range(29) for number in (128 ** power - 1, 128 ** power, 128 ** power + 1, 3 * 128 ** power)
    if number <= TOP
} | {0, 1, 2, 127, 128, 255, 256, 300, 16383, 16384, TOP - 1, TOP})


def no_rows():
    """Things that are no rows of bytes."""
    found = [thing for thing in anything() if type(thing) is not list or any(type(byte) is not int for byte in thing)]
    found += [[256], [-1], [0, 1, True], [0, None], (0, 1), b"ab", [0] * 1000 + [256], [0] * 100000 + [None]]
    return found + [[5, wrong] for wrong in no_numbers()]


class NumberCase(unittest.TestCase):
    def by_hand(self, number):
        """The bytes of a number, reckoned from its figures."""
        figures = []
        while number or not figures:
            number, figure = divmod(number, 128)
            figures.insert(0, figure)
        return [figure + 128 for figure in figures[:-1]] + figures[-1:]


class Written(NumberCase):
    def test_by_hand(self):
        self.assertEqual(written(300), [130, 44])
        self.assertEqual(written(0), [0])
        self.assertEqual(written(127), [127])
        self.assertEqual(written(128), [129, 0])
        self.assertEqual(written(16384), [129, 128, 0])

    def test_about_each_power(self):
        for number in NUMBERS:
            row = written(number)
            self.assertEqual(row, self.by_hand(number))
            self.assertIs(type(row), list)
            self.assertEqual(read_number(row), (number, len(row)))

    def test_no_number(self):
        for wrong in wrong_whole(0, TOP) + anything():
            if type(wrong) is not int or not 0 <= wrong <= TOP:
                with self.assertRaises(NoNumber):
                    written(wrong)

    def test_new_each_time(self):
        written(300).append(1)
        self.assertEqual(written(number=300), [130, 44])


class ReadNumber(NumberCase):
    def test_at_every_place(self):
        row = [9, 130, 44, 0, 129, 0]
        for at, right in ((0, (9, 1)), (1, (300, 3)), (2, (44, 3)), (3, (0, 4)), (4, (128, 6)), (5, (0, 6))):
            self.assertEqual(read_number(row, at), right)
            self.assertIs(type(read_number(row, at)), tuple)
        with self.assertRaises(NoNumber):
            read_number(row, 6)
        for wrong in wrong_whole(0, 6):
            with self.assertRaises(NoPlace):
                read_number(row, wrong)

    def test_places_of_numbers_in_a_row(self):
        row, places = [], []
        for number in NUMBERS:
            places.append(len(row))
            row += written(number)
        for number, at in zip(NUMBERS, places):
            self.assertEqual(read_number(row, at), (number, at + len(written(number))))

    def test_a_nought_ahead(self):
        for row in ([128, 0], [128, 5], [128, 128, 1], [128, 129, 0], [128] + written(300), [128]):
            with self.assertRaises(NoNumber):
                read_number(row)
        self.assertEqual(read_number([129, 128, 5]), (16384 + 5, 3))

    def test_cut_off(self):
        for number in NUMBERS:
            for end in range(len(written(number))):
                with self.assertRaises(NoNumber):
                    read_number(written(number)[:end])

    def test_too_great(self):
        for number in (TOP + 1, TOP + 127, TOP * 2, TOP * 128, 128 ** 40, 128 ** 200):
            with self.assertRaises(NoNumber):
                read_number(self.by_hand(number))
        with self.assertRaises(NoNumber):
            read_number([255] * 10000)
        self.assertEqual(read_number(self.by_hand(TOP)), (TOP, 29))

    def test_all_short_rows(self):
        right = {tuple(written(number)): number for number in range(128 ** 2)}
        figures = (0, 1, 44, 127, 128, 129, 130, 255)
        for many in (0, 1, 2):
            for row in itertools.product(figures, repeat=many):
                if row in right:
                    self.assertEqual(read_number(list(row)), (right[row], many))
                elif row[:1] in right:
                    self.assertEqual(read_number(list(row)), (right[row[:1]], 1))
                else:
                    with self.assertRaises(NoNumber):
                        read_number(list(row))

    def test_refusals_in_their_order(self):
        for wrong in no_rows():
            for at in (0, -1, None, 10 ** 9):
                with self.assertRaises(NoBytes):
                    read_number(wrong, at)
        for row in ([], [128], [128, 0]):
            for at in (-1, len(row) + 1, None, True, "0", 0.0):
                with self.assertRaises(NoPlace):
                    read_number(row, at)
            with self.assertRaises(NoNumber):
                read_number(row, len(row))
            with self.assertRaises(NoNumber):
                read_number(row)

    def test_arguments_by_their_names(self):
        self.assertEqual(read_number(at=1, row=[9, 130, 44]), (300, 3))
        self.assertEqual(read_number(row=[9, 130, 44]), (9, 1))

    def test_the_row_stays(self):
        row = [9, 130, 44]
        read_number(row, 1)
        self.assertEqual(row, [9, 130, 44])


class Check(unittest.TestCase):
    def test_byte_by_byte(self):
        row, right = [], 1
        self.assertEqual(check([]), 1)
        chance = dice(5)
        for turn in range(600):
            byte = chance.choice((0, 1, 255, chance.randrange(256)))
            row.append(byte)
            right = (right * 257 + byte) % 65521
            self.assertEqual(check(row), right)

    def test_written_out(self):
        self.assertEqual(check([0]), 257)
        self.assertEqual(check([255]), 512)
        self.assertEqual(check([0, 0]), 257 * 257 % 65521)
        self.assertEqual(check([0, 0]), 528)
        self.assertEqual(check(row=[1, 2]), (258 * 257 + 2) % 65521)

    def test_order_counts(self):
        self.assertNotEqual(check([1, 2]), check([2, 1]))

    def test_no_bytes(self):
        for wrong in no_rows():
            with self.assertRaises(NoBytes):
                check(wrong)


class Stuffing(unittest.TestCase):
    def test_written_out(self):
        for row, right in (
            ([], []), ([0], [0]), ([0, 0], [0, 0, 2]), ([0, 0, 0], [0, 0, 2, 0]), ([0, 0, 0, 0], [0, 0, 2, 0, 0, 2]),
            ([0, 0, 0, 0, 2, 0], [0, 0, 2, 0, 0, 2, 2, 0]), ([0, 1, 0], [0, 1, 0]), ([0, 0, 1], [0, 0, 2, 1]),
            ([0, 0, 2], [0, 0, 2, 2]), ([0, 2, 0, 0], [0, 2, 0, 0, 2]), ([1, 0, 0, 1, 0], [1, 0, 0, 2, 1, 0]),
            ([0] * 5, [0, 0, 2, 0, 0, 2, 0]), ([2, 2, 2], [2, 2, 2]),
        ):
            with self.subTest(row):
                self.assertEqual(stuffed(row), right)
                self.assertEqual(unstuffed(right), row)

    def test_all_short_rows(self):
        seen = {}
        for many in range(9):
            for row in itertools.product((0, 1, 2), repeat=many):
                found = stuffed(list(row))
                self.assertEqual(unstuffed(found), list(row))
                for at in range(len(found) - 2):
                    if found[at:at + 2] == [0, 0]:
                        self.assertEqual(found[at + 2], 2)
                self.assertNotEqual(found[-2:], [0, 0])
                seen[tuple(found)] = row
        # Of all rows of this length just those that were told are stuffed ones.
        for row in itertools.product((0, 1, 2), repeat=8):
            if row in seen:
                self.assertEqual(unstuffed(list(row)), list(seen[row]))
            else:
                with self.assertRaises(NoStuffing):
                    unstuffed(list(row))

    def test_rows_that_are_no_stuffed_ones(self):
        for wrong in ([0, 0], [0, 0, 0], [0, 0, 1], [0, 0, 3], [0, 0, 255], [1, 0, 0], [0, 0, 2, 0, 0],
                      [0, 0, 2, 0, 0, 0], [5] * 100 + [0, 0]):
            with self.subTest(wrong):
                with self.assertRaises(NoStuffing):
                    unstuffed(wrong)

    def test_long_rows(self):
        for row in ([0] * 100000, [0, 0, 2] * 1000, [0, 0, 1] * 1000, list(range(256)) * 10):
            self.assertEqual(unstuffed(stuffed(row)), row)

    def test_no_bytes(self):
        for wrong in no_rows():
            for deed in (stuffed, unstuffed):
                with self.assertRaises(NoBytes):
                    deed(wrong)

    def test_no_bytes_come_ahead_of_no_stuffing(self):
        with self.assertRaises(NoBytes):
            unstuffed([0, 0, 0, None])

    def test_lists_stay_and_are_new(self):
        for row in ([], [1, 2], [0, 0], [0, 0, 2]):
            for deed in (stuffed, unstuffed):
                if deed == unstuffed and row == [0, 0]:
                    continue
                before = list(row)
                right = list(deed(row))
                deed(row).append(7)
                self.assertEqual(row, before)
                self.assertEqual(deed(row=row), right)


if __name__ == "__main__":
    unittest.main()
