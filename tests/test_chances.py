"""lastpasses.chances: random passes, exact chances and mean indexes."""

import random
import unittest
from fractions import Fraction

from lastpasses.chances import chance, mean_index
from lastpasses.errors import InvalidNumber, InvalidRow, InvalidShare, OtherPersons, UnknownHeight
from lastpasses.reach import reachable
from common import (
    LONG_ROWS, NUMBERS, ODD_VALUES, TEXTS, WRONG_ROWS, Agreeable, Odd, PromiseCase, all_rows, all_words, nested,
    rows_of_all_sizes, walk_word,
)

RANDOM = random.Random(41)

MANY = 10 ** 30

SHARES = ((1, 2), (1, 3), (2, 3), (1, 1000), (999, 1000), (7, 10), (998, 999))

WRONG_SHARES = (
    (2, 4), (2, 2), (500, 1000), (10, 100), (6, 9), (0, 1), (0, 2), (0, 1000), (1, 1), (1000, 1000), (3, 2), (2, 1),
    (1001, 1000), (1, 1001), (1000, 1001), (2, 1001), (1, 10 ** 59), (10 ** 59, 10 ** 59 + 1), (-1, 2), (1, -2),
    (-1, -2), (-2, -1), (1, 0), (0, 0), (-1, 1000), (10 ** 59, 3), (1,), (1, 2, 3), (1, 2, 1), [1, 2], [1, 3],
    (True, 2), (1, True), (True, True), (False, 2), (1, False), (True, 1000), ("1", "2"), ("1", 2), (1, "2"), "12",
    "1/2", b"12", (None, 2), (1, None), (None, None), ((1, 2),), ((1,), (2,)), ([1], 2), (1, [2]), (Odd(), 2),
    (1, Odd()), (Odd(), Odd()), (Agreeable(), Agreeable()), (Agreeable(), 2), (1, Agreeable()), {1: 2}, {1, 2},
    nested(19), range(1, 3),
) + ODD_VALUES + NUMBERS + TEXTS

WRONG_STEPS = (-1, MANY + 1, 10 ** 59, -(10 ** 59)) + ODD_VALUES + TEXTS

WRONG_INDIVIDUALS = (11, 0, -1, 1000, 10 ** 59, "10", b"10", (10,), [10], nested(19)) + ODD_VALUES + TEXTS


def weights(row, share, steps):
    """The chance of each row after so many passes, word by word."""
    tall = Fraction(*share)
    found = {}
    for word in all_words(steps):
        people = walk_word(row, word)
        found[people] = found.get(people, 0) + tall ** word.count("T") * (1 - tall) ** word.count("S")
    return found


def settled_weights(row, share):
    """The chance of each row after more passes than leave a trace."""
    return weights(row, share, len(row))


def as_pair(fraction):
    return fraction.numerator, fraction.denominator


class Chance(PromiseCase):
    def test_known_chances(self):
        row, other = (2, 4, 1, 3), (3, 2, 4, 1)
        self.assert_same(chance(row, (1, 3), 3, other), (4, 27))
        self.assert_same(chance(row, (1, 3), MANY, other), (4, 27))
        self.assert_same(chance(row, (1, 3), 0, row), (1, 1))
        self.assert_same(chance(row, (1, 3), 0, other), (0, 1))
        self.assert_same(chance(row, (1, 3), 1, other), (0, 1))
        self.assert_same(chance((20, 10), (1, 1000), MANY, (10, 20)), (1, 1000))
        self.assert_same(chance((20, 10), (1, 1000), MANY, (20, 10)), (999, 1000))

    def test_few_people_against_all_words(self):
        for size in range(1, 5):
            for row in all_rows(size)[::3]:
                for share in SHARES:
                    for steps in range(size + 2):
                        found = weights(row, share, steps)
                        for other in all_rows(size):
                            wanted = Fraction(found.get(other, 0))
                            self.assert_same(chance(row, share, steps, other), as_pair(wanted))

    def test_many_steps(self):
        for size in range(1, 6):
            for row in all_rows(size)[::7]:
                for share in SHARES:
                    found = settled_weights(row, share)
                    for other in all_rows(size):
                        wanted = as_pair(Fraction(found.get(other, 0)))
                        for steps in (size - 1, size, 399, 400, 401, MANY - 1, MANY):
                            if steps >= size - 1:
                                self.assert_same(chance(row, share, steps, other), wanted)

    def test_all_rows_together(self):
        for row in [row for row in rows_of_all_sizes() if len(row) <= 8]:
            for share in SHARES:
                for steps in (0, 1, 2, len(row) - 1, MANY):
                    found = [Fraction(*chance(row, share, steps, other)) for other in reachable(row)]
                    self.assertEqual(sum(found), 1)

    def test_twelve_people(self):
        for row in LONG_ROWS:
            for share in SHARES:
                tall = Fraction(*share)
                for steps in (0, 1, 5, 10, 11, 12, 30, MANY):
                    word = "".join(RANDOM.choice("ST") for _ in range(min(steps, 11)))
                    wanted = tall ** word.count("T") * (1 - tall) ** word.count("S")
                    self.assert_same(chance(row, share, steps, walk_word(row, word)), as_pair(Fraction(wanted)))

    def test_all_rows_of_twelve_people_together(self):
        row = LONG_ROWS[3]
        for steps in (10, 11, MANY):
            others = {walk_word(row, word) for word in all_words(min(steps, 11))}
            found = [chance(row, (1, 3), steps, other) for other in others]
            self.assertEqual(sum(Fraction(*pair) for pair in found), 1)

    def test_one_person(self):
        for share in SHARES:
            for steps in (0, 1, 2, MANY):
                self.assert_same(chance((7,), share, steps, (7,)), (1, 1))

    def test_by_name(self):
        row, other = (2, 4, 1, 3), (3, 2, 4, 1)
        self.assert_same(chance(row=row, share=(1, 3), steps=3, other=other), (4, 27))
        self.assert_same(chance(other=other, steps=3, share=(1, 3), row=row), (4, 27))
        self.assert_same(chance(row, (1, 3), steps=3, other=other), (4, 27))


class MeanIndex(PromiseCase):
    def check_mean(self, row, share, steps, found):
        means = []
        for person in row:
            wanted = Fraction(sum(weight * people.index(person) for people, weight in found.items()))
            pair = mean_index(row, share, steps, person)
            self.assert_same(pair, as_pair(wanted))
            means.append(Fraction(*pair))
        self.assertEqual(sum(means), len(row) * (len(row) - 1) // 2)

    def test_known_means(self):
        self.assert_same(mean_index((20, 10), (1, 3), 1, 10), (2, 3))
        self.assert_same(mean_index((20, 10), (1, 3), 1, 20), (1, 3))
        self.assert_same(mean_index((20, 10), (1, 3), 0, 20), (0, 1))
        self.assert_same(mean_index((20, 10), (1, 3), 0, 10), (1, 1))
        self.assert_same(mean_index((20, 10), (1, 3), MANY, 10), (2, 3))

    def test_few_passes_against_all_words(self):
        for size in range(1, 6):
            for row in all_rows(size)[::5]:
                for share in SHARES:
                    for steps in range(size + 2):
                        self.check_mean(row, share, steps, weights(row, share, steps))

    def test_many_passes(self):
        for size in range(1, 6):
            for row in all_rows(size)[::11]:
                for share in SHARES:
                    for steps in (400, MANY - 1, MANY):
                        self.check_mean(row, share, steps, settled_weights(row, share))

    def test_longer_rows(self):
        for row in [row for row in rows_of_all_sizes() if 6 <= len(row) <= 9][::4]:
            for steps in (0, 1, 3, 6):
                self.check_mean(row, (7, 10), steps, weights(row, (7, 10), steps))

    def test_twelve_people(self):
        row = LONG_ROWS[3]
        for share in ((1, 2), (1, 1000)):
            self.check_mean(row, share, 4, weights(row, share, 4))
            self.check_mean(row, share, MANY, weights(row, share, 11))

    def test_means_of_twelve_people_together(self):
        for row in LONG_ROWS[:2]:
            for share in SHARES[:4]:
                means = [Fraction(*mean_index(row, share, 7, person)) for person in row]
                self.assertEqual(sum(means), 66)

    def test_the_row_before_many_passes_does_not_matter(self):
        for person in (1, 3, 5):
            found = {mean_index(row, (1, 3), MANY, person) for row in all_rows(5)}
            self.assertEqual(len(found), 1)

    def test_one_person(self):
        for share in SHARES:
            for steps in (0, 1, MANY):
                self.assert_same(mean_index((7,), share, steps, 7), (0, 1))

    def test_by_name(self):
        self.assert_same(mean_index(row=(20, 10), share=(1, 3), steps=1, height=10), (2, 3))
        self.assert_same(mean_index(height=10, steps=1, share=(1, 3), row=(20, 10)), (2, 3))
        self.assert_same(mean_index((20, 10), (1, 3), 1, height=10), (2, 3))


class Errors(PromiseCase):
    def test_rows(self):
        for row, index in WRONG_ROWS:
            self.assert_error(InvalidRow, "index", index, chance, row, (1, 2), 1, (2, 4))
            self.assert_error(InvalidRow, "index", index, chance, (2, 4), (1, 2), 1, row)
            self.assert_error(InvalidRow, "index", index, mean_index, row, (1, 2), 1, 2)

    def test_shares(self):
        for share in WRONG_SHARES:
            self.assert_error(InvalidShare, "share", share, chance, (2, 4), share, 1, (4, 2))
            self.assert_error(InvalidShare, "share", share, chance, (2, 4), share, 0, (2, 4))
            self.assert_error(InvalidShare, "share", share, mean_index, (2, 4), share, 1, 2)

    def test_every_share_with_a_small_bottom(self):
        for bottom in range(1, 13):
            for top in range(bottom + 2):
                fraction = Fraction(top, bottom)
                if 0 < fraction < 1 and fraction.denominator == bottom:
                    self.assert_same(chance((2, 4), (top, bottom), 1, (2, 4)), (top, bottom))
                else:
                    self.assert_error(InvalidShare, "share", (top, bottom), chance, (2, 4), (top, bottom), 1, (2, 4))

    def test_steps(self):
        for steps in WRONG_STEPS:
            self.assert_error(InvalidNumber, "number", steps, chance, (2, 4), (1, 2), steps, (4, 2))
            self.assert_error(InvalidNumber, "number", steps, mean_index, (2, 4), (1, 2), steps, 2)

    def test_heights(self):
        for height in WRONG_INDIVIDUALS:
            self.assert_error(UnknownHeight, "height", height, mean_index, (20, 10), (1, 2), 1, height)
            self.assert_error(UnknownHeight, "height", height, mean_index, (20, 10), (1, 2), 0, height)
        self.assert_error(UnknownHeight, "height", True, mean_index, (2, 1), (1, 2), 1, True)

    def test_order(self):
        for share in ((2, 4), None, Odd()):
            for steps in (-1, True, Odd()):
                self.assert_order(
                    chance,
                    ("row", (2, 4), (2, True), InvalidRow, "index", 1),
                    ("share", (1, 2), share, InvalidShare, "share", share),
                    ("steps", 1, steps, InvalidNumber, "number", steps),
                    ("other", (4, 2), (4, 2, 4), InvalidRow, "index", 2),
                )
                self.assert_order(
                    mean_index,
                    ("row", (2, 4), [2, 4], InvalidRow, "index", None),
                    ("share", (1, 2), share, InvalidShare, "share", share),
                    ("steps", 1, steps, InvalidNumber, "number", steps),
                    ("height", 2, 3, UnknownHeight, "height", 3),
                )

    def test_other_people_come_last(self):
        for row, other in (((1, 2), (1, 3)), ((1, 2), (1, 2, 3)), ((1,), (2,)), ((1, 2, 3), (2, 1))):
            for steps in (0, 1, MANY):
                self.assert_plain_error(OtherPersons, chance, row, (1, 2), steps, other)
                self.assert_plain_error(OtherPersons, chance, other=other, steps=steps, share=(1, 2), row=row)
            self.assert_error(InvalidShare, "share", (0, 1), chance, row, (0, 1), 1, other)
            self.assert_error(InvalidNumber, "number", -1, chance, row, (1, 2), -1, other)
        self.assert_error(InvalidRow, "index", 1, chance, (1, 2), (1, 2), 1, (3, 3))


class Arguments(PromiseCase):
    def test_equal_calls_return_equal_results(self):
        for row in rows_of_all_sizes()[::4]:
            before = list(row)
            other = walk_word(row, "ST")
            self.assert_same(chance(row, (1, 3), 2, other), chance(tuple(before), (1, 3), 2, other))
            self.assert_same(mean_index(row, (1, 3), 2, row[0]), mean_index(tuple(before), (1, 3), 2, row[0]))
            self.assertEqual(list(row), before)


if __name__ == "__main__":
    unittest.main()
