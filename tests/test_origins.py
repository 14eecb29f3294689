"""lastpasses.origins: where a row can come from by passes of one kind."""

import itertools
import math
import random
import unittest

from lastpasses.errors import InvalidKind, InvalidNumber, InvalidRow
from lastpasses.origins import count_origins, origins
from lastpasses.passes import single_pass
from common import (
    LONG_ROWS, ODD_VALUES, TEXTS, WRONG_KINDS, WRONG_ROWS, Odd, PromiseCase, all_rows, rows_of_all_sizes,
    walk_at_the_chair, walk_word,
)

RANDOM = random.Random(29)

SMALL_ROWS = [row for size in range(1, 6) for row in all_rows(size)] + [(7,), (999, 1), (180, 170, 190), (4, 9, 2, 7)]

WRONG_TIMES = (-1, 401, 10 ** 30, 10 ** 59, -(10 ** 59)) + ODD_VALUES + TEXTS


def long_rows():
    """Rows of up to 12 people, as they are and as passes of each kind leave them."""
    for row in rows_of_all_sizes():
        yield row
        for length in (1, 2, len(row) // 2, len(row)):
            yield walk_word(row, "T" * length)
            yield walk_word(row, "S" * length)
    for size in range(2, 13):
        for _ in range(5):
            row = RANDOM.sample(range(1, 1000), size)
            yield tuple(row)
            for held in (max(row), min(row)):
                yield tuple(person for person in row if person != held) + (held,)


def rows_by_outcome(people, word):
    """For each row of these people that the word leads to, the ascending list of the rows that lead there."""
    found = {}
    for row in itertools.permutations(sorted(people)):
        found.setdefault(walk_word(row, word), []).append(row)
    return found


def leading(people, kind):
    """How many people have only shorter people before them (taller ones for S)."""
    best = max if kind == "T" else min
    return sum(person == best(people[:index + 1]) for index, person in enumerate(people))


class Origins(PromiseCase):
    def test_known_rows(self):
        self.assert_same(origins((2, 1, 3), "T"), ((2, 3, 1), (3, 2, 1)))
        self.assert_same(origins((2, 1, 3), "S"), ())
        self.assert_same(origins((1, 2, 3), "T"), ((1, 2, 3), (1, 3, 2), (2, 1, 3), (3, 1, 2)))
        self.assert_same(origins((7,), "T"), ((7,),))
        self.assert_same(origins((7,), "S"), ((7,),))
        self.assert_same(origins((999, 1), "S"), ((1, 999), (999, 1)))
        self.assert_same(origins((999, 1), "T"), ())

    def test_all_rows_of_few_people(self):
        for row in SMALL_ROWS:
            for kind in "ST":
                wanted = [
                    people for people in itertools.permutations(sorted(row))
                    if walk_at_the_chair(people, kind)[0] == row
                ]
                self.assert_same(origins(row, kind), tuple(wanted))

    def test_long_rows(self):
        for row in long_rows():
            for kind, held in (("T", max(row)), ("S", min(row))):
                found = origins(row, kind)
                self.assertIs(type(found), tuple)
                self.assertEqual(bool(found), row[-1] == held)
                self.assertTrue(all(one < two for one, two in zip(found, found[1:])))
                for people in found:
                    self.assert_same(single_pass(people, kind), row)
                    self.assert_same(walk_at_the_chair(people, kind)[0], row)
                self.assertEqual(len(found), count_origins(row, kind, 1))

    def test_most_origins(self):
        self.assertEqual(len(origins(tuple(range(1, 13)), "T")), 2 ** 11)
        self.assertEqual(len(origins(tuple(range(12, 0, -1)), "S")), 2 ** 11)

    def test_the_row_before_is_an_origin(self):
        for row in long_rows():
            for kind in "ST":
                self.assertIn(row, origins(walk_at_the_chair(row, kind)[0], kind))

    def test_by_name(self):
        wanted = ((2, 3, 1), (3, 2, 1))
        self.assert_same(origins(row=(2, 1, 3), kind="T"), wanted)
        self.assert_same(origins((2, 1, 3), kind="T"), wanted)
        self.assert_same(origins(kind="T", row=(2, 1, 3)), wanted)

    def test_errors(self):
        for row, index in WRONG_ROWS:
            self.assert_error(InvalidRow, "index", index, origins, row, "T")
        for kind in WRONG_KINDS:
            self.assert_error(InvalidKind, "kind", kind, origins, (2, 1, 3), kind)
            self.assert_error(InvalidKind, "kind", kind, origins, (7,), kind)

    def test_order(self):
        self.assert_order(
            origins,
            ("row", (2, 1, 3), (2, True, 3), InvalidRow, "index", 1),
            ("kind", "T", "TT", InvalidKind, "kind", "TT"),
        )


class CountOrigins(PromiseCase):
    def test_known_counts(self):
        self.assert_same(count_origins((2, 1, 3), "T", 1), 2)
        self.assert_same(count_origins((1, 2, 3), "T", 2), 6)
        self.assert_same(count_origins((2, 1, 3), "T", 2), 0)
        self.assert_same(count_origins((2, 1, 3), "S", 0), 1)
        self.assert_same(count_origins((7,), "S", 400), 1)

    def test_no_pass(self):
        for row in SMALL_ROWS + list(LONG_ROWS):
            for kind in "ST":
                self.assert_same(count_origins(row, kind, 0), 1)

    def test_all_rows_of_few_people(self):
        for people in ((7,), (1, 999), (5, 20, 21), (1, 2, 3, 4), (1, 2, 3, 4, 5)):
            for kind in "ST":
                for times in range(len(people) + 3):
                    found = rows_by_outcome(people, kind * times)
                    for row in itertools.permutations(people):
                        self.assert_same(count_origins(row, kind, times), len(found.get(row, ())))

    def test_six_people(self):
        for times in (2, 3, 4):
            for kind in "ST":
                found = rows_by_outcome(range(1, 7), kind * times)
                for row in all_rows(6):
                    self.assert_same(count_origins(row, kind, times), len(found.get(row, ())))

    def test_more_passes_than_people(self):
        for size in range(1, 13):
            for row in (tuple(range(1, size + 1)), tuple(range(size, 0, -1)), LONG_ROWS[3][:size]):
                for times in (size - 1, size, size + 1, 399, 400):
                    for kind, settled in (("T", tuple(sorted(row))), ("S", tuple(sorted(row, reverse=True)))):
                        wanted = math.factorial(size) if row == settled else 0
                        self.assert_same(count_origins(row, kind, times), 1 if times == 0 else wanted)

    def test_pass_by_pass(self):
        """The origins of all origins, for rows with few of them."""
        for row in long_rows():
            if leading(row, "T") > 5 or leading(row, "S") > 5:
                continue
            for kind in "ST":
                before = origins(row, kind)
                wanted = sum(count_origins(people, kind, 1) for people in before)
                self.assert_same(count_origins(row, kind, 2), wanted)
                self.assert_same(count_origins(row, kind, 3), sum(count_origins(people, kind, 2) for people in before))

    def test_twelve_people(self):
        for row in long_rows():
            if len(row) < 12:
                continue
            for kind in "ST":
                for times in range(1, 13):
                    held = sorted(row, reverse=kind == "S")[12 - times:]
                    front = row[:12 - times]
                    wanted = math.factorial(times) * (times + 1) ** leading(front, kind)
                    found = count_origins(row, kind, times)
                    self.assert_same(found, wanted if list(row[12 - times:]) == held else 0)

    def test_all_rows_together(self):
        """Each row of the people is an origin of just one row."""
        for size in range(1, 7):
            for kind in "ST":
                for times in (0, 1, 2, size, 400):
                    counts = [count_origins(row, kind, times) for row in all_rows(size)]
                    self.assertEqual(sum(counts), math.factorial(size))

    def test_by_name(self):
        self.assert_same(count_origins(row=(2, 1, 3), kind="T", times=1), 2)
        self.assert_same(count_origins((2, 1, 3), "T", times=1), 2)
        self.assert_same(count_origins(times=1, kind="T", row=(2, 1, 3)), 2)

    def test_errors(self):
        for row, index in WRONG_ROWS:
            self.assert_error(InvalidRow, "index", index, count_origins, row, "T", 1)
        for kind in WRONG_KINDS:
            self.assert_error(InvalidKind, "kind", kind, count_origins, (2, 1, 3), kind, 0)
        for times in WRONG_TIMES:
            self.assert_error(InvalidNumber, "number", times, count_origins, (2, 1, 3), "T", times)
            self.assert_error(InvalidNumber, "number", times, count_origins, (2, 1, 3), "S", times)

    def test_order(self):
        for times in (-1, 401, True, None, Odd()):
            self.assert_order(
                count_origins,
                ("row", (2, 1, 3), (2, 1, 1), InvalidRow, "index", 2),
                ("kind", "T", "t", InvalidKind, "kind", "t"),
                ("times", 1, times, InvalidNumber, "number", times),
            )


class Arguments(PromiseCase):
    def test_results_are_new_and_equal_calls_return_equal_results(self):
        for row in long_rows():
            before = list(row)
            for kind in "ST":
                found = origins(row, kind)
                self.assert_same(found, origins(tuple(before), kind))
                self.assertTrue(all(type(people) is tuple and people is not row for people in found))
                self.assert_same(count_origins(row, kind, 2), count_origins(tuple(before), kind, 2))
            self.assertEqual(list(row), before)


if __name__ == "__main__":
    unittest.main()
