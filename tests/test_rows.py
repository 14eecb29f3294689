"""lastpasses.rows: what a row is, ranks, signs, and the errors of rows and sizes."""

import unittest

from lastpasses.errors import InvalidNumber, InvalidRow, InvalidSize
from lastpasses.rows import check_size, is_row, ranks, signs
from common import LONG_ROWS, NUMBERS, ODD_VALUES, TEXTS, WRONG_SIZES, Agreeable, Odd, PromiseCase, all_rows

ROWS = ((1,), (999,), (1, 999), (999, 1), (170, 180, 165), (20, 40, 10, 30)) + LONG_ROWS

# Values that are no row, with the index of InvalidRow.
NO_ROWS = (
    ((), None),
    (tuple(range(1, 14)), None),
    ((0,) * 13, None),
    ((None, True) + tuple(range(1, 12)), None),
    ((Odd(),) * 13, None),
    (tuple(range(1, 2001)), None),
    ([170, 180], None),
    ([], None),
    ([0], None),
    ({170: 1}, None),
    ({170, 180}, None),
    (range(1, 4), None),
    ("ST", None),
    ("", None),
    (b"ST", None),
    (None, None),
    (True, None),
    (170, None),
    (object(), None),
    (Agreeable(), None),
    ((0,), 0),
    ((1000,), 0),
    ((-1,), 0),
    ((10 ** 59,), 0),
    ((1, 0), 1),
    ((999, 1000), 1),
    ((1, 2, 3, 0, 5, 1000), 3),
    ((170, 170), 1),
    ((170, 180, 165, 180, 170), 3),
    ((1, 2, 3, 4, 5, 6, 7, 8, 9, 10, 11, 1), 11),
    ((1, 2, 3, 4, 5, 6, 7, 8, 9, 10, 11, 1000), 11),
    ((True,), 0),
    ((False,), 0),
    ((2, True), 1),
    ((1, True), 1),
    ((True, 1), 0),
    ((20, 40, True, 20), 2),
    ((20, 20, True), 1),
    ((20, None), 1),
    ((20, "30"), 1),
    ((20, [30]), 1),
    ((20, (30,)), 1),
    (((20, 30),), 0),
    ((20, {}), 1),
    ((20, {30}), 1),
    ((20, b"a"), 1),
    ((20, Odd(), 20), 1),
    ((20, 30, Agreeable()), 2),
    ((20, int), 1),
)


class IsRow(PromiseCase):
    def test_rows(self):
        for row in ROWS:
            with self.subTest(row=row):
                self.assertIs(is_row(row), True)

    def test_one_and_twelve_people(self):
        self.assertIs(is_row((1,)), True)
        self.assertIs(is_row(tuple(range(988, 1000))), True)

    def test_every_height_alone(self):
        for height in range(-3, 1004):
            with self.subTest(height=height):
                self.assertIs(is_row((height,)), 1 <= height <= 999)

    def test_what_is_no_row(self):
        for value, _ in NO_ROWS:
            with self.subTest(value=type(value)):
                self.assertIs(is_row(value), False)

    def test_odd_values(self):
        for value in ODD_VALUES + TEXTS + NUMBERS:
            with self.subTest(value=type(value)):
                self.assertIs(is_row(value), False)

    def test_by_name(self):
        self.assertIs(is_row(value=(170, 180, 165)), True)
        self.assertIs(is_row(value=[170]), False)


class Ranks(PromiseCase):
    def test_known_ranks(self):
        self.assert_same(ranks((7,)), (1,))
        self.assert_same(ranks((1, 999)), (1, 2))
        self.assert_same(ranks((999, 1)), (2, 1))
        self.assert_same(ranks((20, 40, 10, 30)), (2, 4, 1, 3))
        self.assert_same(ranks((500, 1, 999, 2)), (3, 1, 4, 2))

    def test_heights_one_to_n_are_their_own_ranks(self):
        for size in range(1, 6):
            for row in all_rows(size):
                self.assert_same(ranks(row), row)

    def test_one_plus_the_number_of_shorter_people(self):
        for row in ROWS:
            counted = []
            for person in row:
                rank = 1
                for other in row:
                    if other < person:
                        rank += 1
                counted.append(rank)
            self.assert_same(ranks(row), tuple(counted))

    def test_errors(self):
        for value, index in NO_ROWS:
            with self.subTest(value=type(value), index=index):
                self.assert_error(InvalidRow, "index", index, ranks, value)

    def test_by_name(self):
        self.assert_same(ranks(row=(20, 40, 10, 30)), (2, 4, 1, 3))
        self.assert_error(InvalidRow, "index", 2, ranks, row=(20, 40, True, 20))


class Signs(PromiseCase):
    def test_known_signs(self):
        self.assert_same(signs((2, 4, 1, 3), 3), "0101")
        self.assert_same(signs((170, 180, 165), 170), "110")
        self.assert_same(signs((170, 180, 165), 171), "010")
        self.assert_same(signs((170, 180, 165), 169), "110")
        self.assert_same(signs((7,), 7), "1")
        self.assert_same(signs((7,), 8), "0")

    def test_far_away_and_negative(self):
        for row in ROWS:
            for height in (1, 0, -1, -999, -(10 ** 59)):
                self.assert_same(signs(row, height), "1" * len(row))
            for height in (1000, 10 ** 30, 10 ** 60 - 1):
                self.assert_same(signs(row, height), "0" * len(row))

    def test_heights_of_the_row_and_around_them(self):
        for row in ROWS:
            for person in row:
                for height in (person - 1, person, person + 1):
                    wanted = ""
                    for other in row:
                        wanted += "0" if other < height else "1"
                    self.assert_same(signs(row, height), wanted)

    def test_row_errors(self):
        for value, index in NO_ROWS:
            with self.subTest(value=type(value), index=index):
                self.assert_error(InvalidRow, "index", index, signs, value, 3)

    def test_height_errors(self):
        for height in ODD_VALUES + TEXTS:
            with self.subTest(height=type(height)):
                self.assert_error(InvalidNumber, "number", height, signs, (2, 4, 1, 3), height)

    def test_true_and_false_are_no_heights(self):
        self.assert_error(InvalidNumber, "number", True, signs, (2, 4, 1, 3), True)
        self.assert_error(InvalidNumber, "number", False, signs, (2, 4, 1, 3), False)

    def test_the_row_comes_first(self):
        self.assert_error(InvalidRow, "index", None, signs, [2], "3")
        self.assert_error(InvalidRow, "index", 1, signs, (2, 2), None)
        self.assert_error(InvalidRow, "index", 1, signs, height=True, row=(2, 2))

    def test_by_name(self):
        self.assert_same(signs(row=(2, 4, 1, 3), height=3), "0101")
        self.assert_same(signs((2, 4, 1, 3), height=3), "0101")
        self.assert_same(signs(height=3, row=(2, 4, 1, 3)), "0101")
        self.assert_error(InvalidNumber, "number", True, signs, (2, 4), height=True)


class Sizes(PromiseCase):
    def test_sizes(self):
        for size in range(1, 13):
            self.assertIsNone(check_size(size))

    def test_errors(self):
        for size in WRONG_SIZES:
            with self.subTest(size=type(size)):
                self.assert_error(InvalidSize, "size", size, check_size, size)


class Arguments(PromiseCase):
    def test_nothing_is_modified(self):
        people = [170, 180, 165]
        held = (170, people)
        for call in (is_row, ranks):
            for value in (people, held):
                try:
                    call(value)
                except InvalidRow:
                    pass
        self.assertEqual(people, [170, 180, 165])
        row = (20, 40, 10, 30)
        ranks(row)
        signs(row, 20)
        self.assertEqual(row, (20, 40, 10, 30))

    def test_equal_calls_return_equal_results(self):
        for row in ROWS:
            equal_row = tuple(list(row))
            self.assert_same(ranks(row), ranks(equal_row))
            self.assert_same(signs(row, 170), signs(equal_row, 170))
            self.assertIs(is_row(row), is_row(equal_row))


if __name__ == "__main__":
    unittest.main()
