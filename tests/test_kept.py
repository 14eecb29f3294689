"""lastpasses.kept: the people at the front after a word, whatever the order of its letters."""

import random
import unittest

from lastpasses.errors import InvalidNumber, InvalidRow, TooManySeats
from lastpasses.kept import kept
from common import (
    WRONG_ROWS, WRONG_SEATS, Odd, PromiseCase, all_rows, all_words, rows_of_all_sizes, walk_word,
)

ROWS = rows_of_all_sizes()

RANDOM = random.Random(13)


def letters_for(row):
    """All numbers of letters S and T with at most as many together as people."""
    return [(shorts, letters - shorts) for letters in range(len(row) + 1) for shorts in range(letters + 1)]


def orders(shorts, talls):
    """Several words with these letters."""
    letters = list("S" * shorts + "T" * talls)
    words = ["".join(letters), "".join(reversed(letters))]
    for _ in range(3):
        RANDOM.shuffle(letters)
        words.append("".join(letters))
    return words


class Kept(PromiseCase):
    def test_known_people(self):
        self.assert_same(kept((3, 5, 1, 4, 2), 2, 1), (4, 3))
        self.assert_same(kept((3, 5, 1, 4, 2), 0, 1), (3, 1, 4, 2))
        self.assert_same(kept((3, 5, 1, 4, 2), 1, 0), (5, 3, 4, 2))
        self.assert_same(kept((3, 5, 1, 4, 2), 2, 2), (3,))
        self.assert_same(kept((20,), 0, 0), (20,))
        self.assert_same(kept((20,), 0, 1), ())

    def test_no_letters(self):
        for row in ROWS:
            self.assert_same(kept(row, 0, 0), row)

    def test_as_many_letters_as_people(self):
        for row in ROWS:
            for shorts in range(len(row) + 1):
                self.assert_same(kept(row, shorts, len(row) - shorts), ())

    def test_words_with_these_letters(self):
        for row in ROWS:
            for shorts, talls in letters_for(row):
                found = kept(row, shorts, talls)
                self.assertEqual(len(found), len(row) - shorts - talls)
                for word in orders(shorts, talls):
                    self.assert_same(found, walk_word(row, word)[:len(row) - len(word)])

    def test_all_orders_of_the_letters(self):
        for size in range(1, 6):
            for row in all_rows(size):
                for length in range(size + 1):
                    for word in all_words(length):
                        found = kept(row, word.count("S"), word.count("T"))
                        self.assert_same(found, walk_word(row, word)[:size - length])

    def test_by_name(self):
        self.assert_same(kept(row=(3, 5, 1, 4, 2), shorts=2, talls=1), (4, 3))
        self.assert_same(kept((3, 5, 1, 4, 2), talls=1, shorts=2), (4, 3))
        self.assert_same(kept(talls=1, row=(3, 5, 1, 4, 2), shorts=0), (3, 1, 4, 2))


class Errors(PromiseCase):
    def test_rows(self):
        for row, index in WRONG_ROWS:
            with self.subTest(index=index):
                self.assert_error(InvalidRow, "index", index, kept, row, 1, 0)

    def test_numbers(self):
        for number in WRONG_SEATS:
            with self.subTest(number=str(type(number))):
                self.assert_error(InvalidNumber, "number", number, kept, (3, 1, 4, 2), number, 1)
                self.assert_error(InvalidNumber, "number", number, kept, (3, 1, 4, 2), 1, number)

    def test_more_letters_than_people(self):
        for size in range(1, 13):
            row = tuple(range(1, size + 1))
            for shorts in range(13):
                for talls in range(13):
                    if shorts + talls > size:
                        self.assert_error(TooManySeats, "seats", shorts + talls, kept, row, shorts, talls)

    def test_order(self):
        for wrong in (-1, 13, True, None, Odd()):
            self.assert_order(
                kept,
                ("row", (3, 1, 4, 2), (3, 3), InvalidRow, "index", 1),
                ("shorts", 1, wrong, InvalidNumber, "number", wrong),
                ("talls", 1, 14, InvalidNumber, "number", 14),
            )
        self.assert_error(InvalidNumber, "number", 13, kept, (3,), 12, 13)
        self.assert_error(InvalidNumber, "number", True, kept, (3,), 12, True)


class Arguments(PromiseCase):
    def test_results_are_new_tuples_and_the_row_stays_as_it_was(self):
        for row in ROWS:
            before = list(row)
            self.assertIs(type(kept(row, 0, 0)), tuple)
            self.assertIsNot(kept(row, 0, 0), row)
            self.assertEqual(list(row), before)

    def test_equal_calls_return_equal_results(self):
        for row in ROWS:
            for shorts, talls in letters_for(row):
                self.assert_same(kept(row, shorts, talls), kept(tuple(list(row)), shorts, talls))


if __name__ == "__main__":
    unittest.main()
