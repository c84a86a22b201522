"""Whole numbers and rows of bytes, point 4."""

import unittest

from lanescroll.wholes import is_bytes, is_number, is_whole
from tests.things import FORTY, LARGE, NEAR_FORTY, Plain, no_numbers, no_tuples


class Number(unittest.TestCase):
    def test_numbers_of_any_size(self):
        for number in (0, 1, -1, 10 ** 60, -10 ** 60, *LARGE):
            with self.subTest(number):
                self.assertIs(is_number(number), True)

    def test_things_of_other_kinds(self):
        for thing in no_numbers():
            with self.subTest(repr(thing)):
                self.assertIs(is_number(thing), False)


class Whole(unittest.TestCase):
    def test_bounds_belong_to_the_range(self):
        for low, high in ((0, 255), (1, 200), (-7, 7), (-20, -10), (0, 1), (5, 5), (-FORTY, FORTY)):
            with self.subTest(low=low, high=high):
                self.assertIs(is_whole(low - 1, low, high), False)
                self.assertIs(is_whole(low, low, high), True)
                self.assertIs(is_whole(high, low, high), True)
                self.assertIs(is_whole(high + 1, low, high), False)

    def test_each_number_of_a_small_range(self):
        for number in range(-10, 11):
            with self.subTest(number):
                self.assertIs(is_whole(number, -3, 4), -3 <= number <= 4)

    def test_low_above_high(self):
        for number in range(-2, 9):
            with self.subTest(number):
                self.assertIs(is_whole(number, 6, 1), False)
                self.assertIs(is_whole(number, 4, 3), False)

    def test_numbers_of_forty_figures(self):
        self.assertIs(is_whole(FORTY, 0, 10 ** 40), True)
        self.assertIs(is_whole(FORTY, FORTY, FORTY), True)
        self.assertIs(is_whole(FORTY, 0, FORTY - 1), False)
        self.assertIs(is_whole(FORTY, FORTY + 1, NEAR_FORTY), False)
        self.assertIs(is_whole(-FORTY, -NEAR_FORTY, 0), True)
        self.assertIs(is_whole(-FORTY, -FORTY, -FORTY), True)
        self.assertIs(is_whole(-FORTY, 1 - FORTY, 0), False)
        self.assertIs(is_whole(-FORTY, -NEAR_FORTY, -FORTY - 1), False)
        self.assertIs(is_whole(-FORTY, 0, FORTY), False)

    def test_truths_are_no_whole_numbers(self):
        for truth in (True, False):
            with self.subTest(truth):
                self.assertIs(is_whole(truth, 0, 1), False)
                self.assertIs(is_whole(truth, -FORTY, FORTY), False)

    def test_things_of_other_kinds(self):
        for thing in no_numbers():
            with self.subTest(repr(thing)):
                self.assertIs(is_whole(thing, 0, 1), False)
                self.assertIs(is_whole(thing, -FORTY, FORTY), False)

    def test_things_of_other_kinds_with_low_above_high(self):
        for thing in no_numbers():
            with self.subTest(repr(thing)):
                self.assertIs(is_whole(thing, 1, 0), False)

    def test_arguments_by_their_names(self):
        self.assertIs(is_whole(high=9, low=3, thing=9), True)
        self.assertIs(is_whole(high=9, low=3, thing=2), False)
        self.assertIs(is_whole(5, high=4, low=0), False)

    def test_a_list_handed_in_stays_as_it_was(self):
        thing = [1, [2]]
        is_whole(thing, 0, 3)
        self.assertEqual(thing, [1, [2]])


class Bytes(unittest.TestCase):
    def test_lists_of_bytes(self):
        for row in ([], [0], [255], [0, 255], [0, 0, 1], list(range(256)), [7] * 1000):
            with self.subTest(row):
                self.assertIs(is_bytes(row), True)

    def test_numbers_that_are_no_bytes(self):
        for number in (-1, 256, -255, 1000, *LARGE):
            with self.subTest(number):
                self.assertIs(is_bytes([number]), False)

    def test_a_wrong_thing_at_any_place(self):
        for wrong in [-1, 256] + no_numbers():
            for at in range(4):
                row = [0, 255, 1]
                row.insert(at, wrong)
                with self.subTest(wrong=repr(wrong), at=at):
                    self.assertIs(is_bytes(row), False)

    def test_a_truth_among_bytes(self):
        self.assertIs(is_bytes([True]), False)
        self.assertIs(is_bytes([False]), False)
        self.assertIs(is_bytes([0, 1, True, 2]), False)
        self.assertIs(is_bytes([0, 1, 2, False]), False)

    def test_things_that_are_no_list(self):
        things = no_tuples() + [(), (1,), (0, 255), "ab", b"ab", bytearray(b"ab"), {0: 1}, {0, 1}]
        for thing in things:
            if isinstance(thing, list):
                continue
            with self.subTest(repr(thing)):
                self.assertIs(is_bytes(thing), False)

    def test_lists_of_lists(self):
        self.assertIs(is_bytes([[]]), False)
        self.assertIs(is_bytes([[1, 2]]), False)
        self.assertIs(is_bytes([Plain()]), False)

    def test_a_long_row(self):
        row = [255] * 100000
        self.assertIs(is_bytes(row), True)
        row[-1] = 256
        self.assertIs(is_bytes(row), False)

    def test_the_row_stays_as_it_was(self):
        for row in ([], [3, 1, 2, 1], [3, -1, 2], [True, 0], [[1], "a"]):
            before = list(row)
            kinds = [type(thing) for thing in row]
            is_bytes(row)
            with self.subTest(before):
                self.assertEqual(row, before)
                self.assertEqual([type(thing) for thing in row], kinds)

    def test_argument_by_its_name(self):
        self.assertIs(is_bytes(thing=[1, 2]), True)
        self.assertIs(is_bytes(thing=(1, 2)), False)


if __name__ == "__main__":
    unittest.main()
