"""lastpasses.desks: desks, departures, words as desks, and their errors."""

import itertools
import random
import unittest

from lastpasses.desks import departures, desk, split_word
from lastpasses.errors import InvalidNumber, InvalidRow, InvalidSize, InvalidWord, TooManySeats
from common import (
    WRONG_ROWS, WRONG_SEATS, WRONG_SIZES, WRONG_WORDS, Odd, PromiseCase, all_rows, rows_of_all_sizes, walk_word,
    words_up_to,
)

ROWS = rows_of_all_sizes()

SMALL_ROWS = [row for size in range(1, 6) for row in all_rows(size)]

RANDOM = random.Random(7)

LONG_WORDS = [
    "S" * 400, "T" * 400, "ST" * 200, "TS" * 200, "SSTST" * 80, "T" * 399 + "S", "S" * 200 + "T" * 200,
    "T" * 200 + "S" * 200, "SSSSSSSTTTTTTTT" * 26, "S" * 37 + "T" * 41,
] + ["".join(RANDOM.choice("SSST" if many else "ST") for _ in range(400)) for many in (0, 1)]


def desks_for(row):
    """All numbers of short and tall seats for which the row has enough people."""
    return [(shorts, seats - shorts) for seats in range(len(row) + 1) for shorts in range(seats + 1)]


def at_the_desk(row, shorts, talls):
    """Person by person: when each one leaves the desk."""
    sitting = set()
    left = []
    arrivals = 0
    for person in row:
        arrivals += 1
        sitting.add(person)
        if len(sitting) == shorts + talls + 1:
            leaving = [one for one in sitting if sum(other < one for other in sitting) == shorts]
            left.append((arrivals, leaving[0]))
            sitting.remove(leaving[0])
    shortest = set()
    while len(shortest) < shorts:
        shortest.add(min(sitting))
        sitting.remove(min(sitting))
    while shortest:
        left.append((arrivals, max(shortest)))
        shortest.remove(max(shortest))
    while sitting:
        left.append((arrivals, min(sitting)))
        sitting.remove(min(sitting))
    return tuple(left)


def fewest_desks(word, size):
    """The least number of desks, over all ways to cut the word."""
    least = [0] + [None] * len(word)
    for end in range(1, len(word) + 1):
        starts = [start for start in range(max(0, end - size), end) if "TS" not in word[start:end]]
        least[end] = 1 + min(least[start] for start in starts)
    return least[-1]


class Desk(PromiseCase):
    def test_known_desks(self):
        self.assert_same(desk((3, 1, 4, 2), 1, 1), (3, 2, 1, 4))
        self.assert_same(desk((2, 4, 1, 3), 0, 1), (2, 1, 3, 4))
        self.assert_same(desk((2, 4, 1, 3), 1, 0), (4, 2, 3, 1))
        self.assert_same(desk((2, 4, 1, 3), 2, 2), (2, 1, 3, 4))
        self.assert_same(desk((170, 180, 165, 190, 150), 2, 1), (180, 170, 165, 150, 190))
        self.assert_same(departures((2, 4, 1, 3), 2, 2), ((4, 2), (4, 1), (4, 3), (4, 4)))

    def test_no_seats(self):
        for row in ROWS:
            self.assert_same(desk(row, 0, 0), row)
            self.assert_same(departures(row, 0, 0), tuple(enumerate(row, 1)))

    def test_as_many_seats_as_people(self):
        for row in ROWS:
            size = len(row)
            for shorts in range(size + 1):
                ascending = sorted(row)
                wanted = tuple(ascending[:shorts][::-1] + ascending[shorts:])
                self.assert_same(desk(row, shorts, size - shorts), wanted)
                found = departures(row, shorts, size - shorts)
                self.assert_same(found, tuple((size, person) for person in wanted))

    def test_person_by_person(self):
        for row in ROWS + SMALL_ROWS:
            for shorts, talls in desks_for(row):
                wanted = at_the_desk(row, shorts, talls)
                self.assert_same(departures(row, shorts, talls), wanted)
                self.assert_same(desk(row, shorts, talls), tuple(person for _, person in wanted))

    def test_a_desk_has_the_effect_of_its_passes(self):
        for row in ROWS + SMALL_ROWS:
            for shorts, talls in desks_for(row):
                self.assert_same(desk(row, shorts, talls), walk_word(row, "S" * shorts + "T" * talls))

    def test_by_name(self):
        for call, wanted in ((desk, (3, 2, 1, 4)), (departures, ((3, 3), (4, 2), (4, 1), (4, 4)))):
            self.assert_same(call(row=(3, 1, 4, 2), shorts=1, talls=1), wanted)
            self.assert_same(call((3, 1, 4, 2), talls=1, shorts=1), wanted)
        self.assert_same(desk(talls=0, shorts=1, row=(2, 4, 1, 3)), (4, 2, 3, 1))
        self.assert_same(desk((2, 4, 1, 3), 0, talls=1), (2, 1, 3, 4))


class DeskErrors(PromiseCase):
    def test_rows(self):
        for call in (desk, departures):
            for row, index in WRONG_ROWS:
                with self.subTest(call=call.__name__, index=index):
                    self.assert_error(InvalidRow, "index", index, call, row, 1, 1)

    def test_numbers(self):
        for call in (desk, departures):
            for number in WRONG_SEATS:
                with self.subTest(call=call.__name__, number=str(type(number))):
                    self.assert_error(InvalidNumber, "number", number, call, (3, 1, 4, 2), number, 1)
                    self.assert_error(InvalidNumber, "number", number, call, (3, 1, 4, 2), 1, number)

    def test_more_seats_than_people(self):
        for call in (desk, departures):
            for size in range(1, 13):
                row = tuple(range(1, size + 1))
                for shorts in range(13):
                    for talls in range(13):
                        if shorts + talls > size:
                            seats = shorts + talls
                            self.assert_error(TooManySeats, "seats", seats, call, row, shorts, talls)

    def test_order(self):
        for call in (desk, departures):
            for wrong in (-1, 13, True, None, Odd()):
                self.assert_order(
                    call,
                    ("row", (3, 1, 4, 2), (3, 3), InvalidRow, "index", 1),
                    ("shorts", 1, wrong, InvalidNumber, "number", wrong),
                    ("talls", 1, 14, InvalidNumber, "number", 14),
                )

    def test_seats_come_last(self):
        for call in (desk, departures):
            self.assert_error(InvalidNumber, "number", 13, call, (3,), 13, 12)
            self.assert_error(InvalidNumber, "number", 13, call, (3,), 12, 13)
            self.assert_error(InvalidNumber, "number", True, call, (3,), 12, True)
            self.assert_error(TooManySeats, "seats", 24, call, (3,), 12, 12)
            self.assert_error(InvalidRow, "index", None, call, (), 1, 0)


class SplitWord(PromiseCase):
    def assert_split(self, word, size):
        desks = split_word(word, size)
        self.assertIs(type(desks), tuple)
        self.assertEqual("".join("S" * shorts + "T" * talls for shorts, talls in desks), word)
        for pair in desks:
            self.assertIs(type(pair), tuple)
            self.assertTrue(all(type(seats) is int and seats >= 0 for seats in pair))
            self.assertTrue(1 <= sum(pair) <= size)
        self.assertEqual(len(desks), fewest_desks(word, size))
        for one, following in itertools.pairwise(desks):
            one_more = ("S" * one[0] + "T" * one[1] + "S" * following[0] + "T" * following[1])[:sum(one) + 1]
            self.assertTrue(len(one_more) > size or "TS" in one_more)

    def test_known_words(self):
        self.assert_same(split_word("SSTST", 4), ((2, 1), (1, 1)))
        self.assert_same(split_word("SSTST", 2), ((2, 0), (0, 1), (1, 1)))
        self.assert_same(split_word("SSTST", 1), ((1, 0), (1, 0), (0, 1), (1, 0), (0, 1)))
        self.assert_same(split_word("TTTTT", 2), ((0, 2), (0, 2), (0, 1)))
        self.assert_same(split_word("SSSTT", 2), ((2, 0), (1, 1), (0, 1)))
        self.assert_same(split_word("TSTS", 12), ((0, 1), (1, 1), (1, 0)))

    def test_the_empty_word(self):
        for size in range(1, 13):
            self.assert_same(split_word("", size), ())

    def test_one_letter(self):
        for size in range(1, 13):
            self.assert_same(split_word("S", size), ((1, 0),))
            self.assert_same(split_word("T", size), ((0, 1),))

    def test_all_short_words(self):
        for word in words_up_to(8):
            for size in range(1, 13):
                self.assert_split(word, size)

    def test_four_hundred_letters_and_runs(self):
        for word in LONG_WORDS:
            for size in range(1, 13):
                self.assert_split(word, size)

    def test_the_desks_have_the_effect_of_the_word(self):
        for row in ROWS:
            for word in ("SSTST", "TTSSSTSTT", "SSSSSSTTTTTTTTTTTS"):
                found = row
                for shorts, talls in split_word(word, len(row)):
                    found = desk(found, shorts, talls)
                self.assert_same(found, walk_word(row, word))

    def test_by_name(self):
        self.assert_same(split_word(word="SSTST", size=4), ((2, 1), (1, 1)))
        self.assert_same(split_word("SSTST", size=4), ((2, 1), (1, 1)))
        self.assert_same(split_word(size=2, word="SSTST"), ((2, 0), (0, 1), (1, 1)))

    def test_errors(self):
        for word, index in WRONG_WORDS:
            with self.subTest(index=index):
                self.assert_error(InvalidWord, "index", index, split_word, word, 4)
        for size in WRONG_SIZES:
            with self.subTest(size=str(type(size))):
                self.assert_error(InvalidSize, "size", size, split_word, "SSTST", size)
                self.assert_error(InvalidSize, "size", size, split_word, "", size)

    def test_order(self):
        for size in (0, 13, True, None, Odd()):
            self.assert_order(
                split_word,
                ("word", "SST", "SsT", InvalidWord, "index", 1),
                ("size", 4, size, InvalidSize, "size", size),
            )


class Arguments(PromiseCase):
    def test_the_row_stays_as_it_was_and_equal_calls_return_equal_results(self):
        for row in ROWS:
            before = list(row)
            equal_row = tuple(before)
            for shorts, talls in desks_for(row):
                self.assert_same(desk(row, shorts, talls), desk(equal_row, shorts, talls))
                self.assert_same(departures(row, shorts, talls), departures(equal_row, shorts, talls))
            self.assertEqual(list(row), before)

    def test_results_are_new_tuples(self):
        for row in ROWS:
            self.assertIs(type(desk(row, 0, 0)), tuple)
            self.assertIsNot(desk(row, 0, 0), row)

    def test_a_list_is_refused_and_stays_as_it_was(self):
        people = [3, 1, 4, 2]
        for call in (desk, departures):
            self.assert_error(InvalidRow, "index", None, call, people, 1, 1)
        self.assertEqual(people, [3, 1, 4, 2])


if __name__ == "__main__":
    unittest.main()
