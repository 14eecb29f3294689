"""lastpasses.reach: which rows come from a row, by which word, and why others do not."""

import random
import unittest

from lastpasses.errors import InvalidNumber, InvalidRow, OtherPersons, TooManyPeople
from lastpasses.reach import mismatches, reachable, word_to
from common import (
    LONG_ROWS, ODD_VALUES, TEXTS, WRONG_ROWS, Odd, PromiseCase, all_rows, rows_of_all_sizes, walk_at_the_chair,
    walk_word, words_up_to,
)

RANDOM = random.Random(23)

SMALL_ROWS = [row for size in range(1, 5) for row in all_rows(size)]

ROWS = rows_of_all_sizes()

WRONG_PASSES = (-1, 401, 10 ** 59, -(10 ** 59)) + tuple(value for value in ODD_VALUES if value is not None) + TEXTS


def pass_by_pass(row, most):
    """The rows after at most so many passes, done one after another."""
    seen = {row}
    newest = {row}
    for _ in range(most):
        newest = {walk_at_the_chair(people, kind)[0] for people in newest for kind in "ST"}
        seen |= newest
    return tuple(sorted(seen))


def first_words(row):
    """For each row that comes from the row the first word that leads to it."""
    found = {row: ""}
    newest = [("", row)]
    for _ in range(len(row)):
        newest = [(word + kind, walk_at_the_chair(people, kind)[0]) for word, people in newest for kind in "ST"]
        for word, people in newest:
            found.setdefault(people, word)
    return found


def reasons(row, other):
    """The pairs of a count and an index, as the document describes them, by passes."""
    pairs = []
    for count in range(len(row)):
        last = [(other[index], other[:index + 1]) for index in range(len(row) - count, len(row))]
        if not all(person in (min(people), max(people)) for person, people in last):
            break
        shorts = sum(person == min(people) for person, people in last)
        people = walk_word(row, "S" * shorts + "T" * (count - shorts))[:len(row) - count]
        pairs.append((count, [one == two for one, two in zip(people, other)].index(False)))
    return tuple(pairs)


def changed_rows(row):
    """Rows of the same people: drawn ones, some that come from the row, and some that nearly do."""
    size = len(row)
    for length in range(size + 2):
        result = list(walk_word(row, "".join(RANDOM.choice("ST") for _ in range(length))))
        yield tuple(result)
        one, two = RANDOM.randrange(size), RANDOM.randrange(size)
        result[one], result[two] = result[two], result[one]
        yield tuple(result)
        result[0], result[size // 2] = result[size // 2], result[0]
        yield tuple(result)
        RANDOM.shuffle(result)
        yield tuple(result)


class Reachable(PromiseCase):
    def test_known_rows(self):
        self.assert_same(reachable((1, 2, 3)), ((1, 2, 3), (2, 1, 3), (2, 3, 1), (3, 2, 1)))
        self.assert_same(reachable((1, 2, 3), passes=1), ((1, 2, 3), (2, 3, 1)))
        self.assert_same(reachable((1, 2, 3), passes=0), ((1, 2, 3),))
        self.assert_same(reachable((7,)), ((7,),))
        self.assert_same(reachable((7,), passes=400), ((7,),))

    def test_pass_by_pass(self):
        for row in SMALL_ROWS + [row for row in ROWS if len(row) <= 8]:
            everything = pass_by_pass(row, len(row) + 1)
            self.assert_same(reachable(row), everything)
            self.assert_same(reachable(row, passes=None), everything)
            for passes in range(len(row) + 2):
                self.assert_same(reachable(row, passes=passes), pass_by_pass(row, passes))

    def test_four_hundred_passes(self):
        for row in [row for row in ROWS if len(row) <= 8][::5]:
            self.assert_same(reachable(row, passes=400), pass_by_pass(row, 400))
            self.assert_same(reachable(row, passes=399), pass_by_pass(row, 399))

    def test_nine_people_and_more(self):
        for row in ROWS:
            if len(row) > 8:
                self.assert_error(TooManyPeople, "count", len(row), reachable, row)
                for passes in (None, 0, 1, 400):
                    self.assert_error(TooManyPeople, "count", len(row), reachable, row, passes=passes)
            else:
                self.assertIn(row, reachable(row))

    def test_the_passes_by_name_only(self):
        self.assert_same(reachable(row=(1, 2, 3), passes=1), ((1, 2, 3), (2, 3, 1)))
        self.assert_same(reachable(passes=1, row=(1, 2, 3)), ((1, 2, 3), (2, 3, 1)))
        self.assert_same(reachable(row=(2, 1)), ((1, 2), (2, 1)))
        with self.assertRaises(TypeError):
            reachable((1, 2, 3), 1)

    def test_errors(self):
        for row, index in WRONG_ROWS:
            with self.subTest(index=index):
                self.assert_error(InvalidRow, "index", index, reachable, row)
                self.assert_error(InvalidRow, "index", index, reachable, row, passes=1)
        for passes in WRONG_PASSES:
            with self.subTest(passes=str(type(passes))):
                self.assert_error(InvalidNumber, "number", passes, reachable, (1, 2, 3), passes=passes)
                self.assert_error(InvalidNumber, "number", passes, reachable, (7,), passes=passes)

    def test_order(self):
        nine = tuple(range(1, 10))
        for passes in WRONG_PASSES:
            self.assert_error(InvalidRow, "index", 1, reachable, (2, 2), passes=passes)
            self.assert_error(InvalidRow, "index", None, reachable, passes=passes, row=[1, 2])
            self.assert_error(TooManyPeople, "count", 9, reachable, nine, passes=passes)
        self.assert_error(InvalidRow, "index", 9, reachable, nine + (True,))


class Pairs(PromiseCase):
    def check_pair(self, row, other, words):
        if other in words:
            self.assert_same(word_to(row, other), words[other])
            self.assert_same(walk_word(row, word_to(row, other)), other)
            self.assert_same(mismatches(row, other), ())
        else:
            self.assert_same(word_to(row, other), None)
            pairs = mismatches(row, other)
            self.assert_same(pairs, reasons(row, other))
            self.assertEqual([count for count, _ in pairs], list(range(len(pairs))))
            self.assertTrue(1 <= len(pairs) <= len(row) - 1)

    def test_known_pairs(self):
        self.assert_same(word_to((2, 4, 1, 3), (4, 2, 3, 1)), "S")
        self.assert_same(word_to((2, 4, 1, 3), (2, 4, 1, 3)), "")
        self.assert_same(word_to((1, 2, 3), (1, 3, 2)), None)
        self.assert_same(word_to((7,), (7,)), "")
        self.assert_same(mismatches((7,), (7,)), ())
        self.assert_same(mismatches((1, 2, 3, 4), (1, 3, 2, 4)), ((0, 1), (1, 1)))
        self.assert_same(mismatches((1, 2, 3), (1, 3, 2)), ((0, 1),))

    def test_all_pairs_of_few_people(self):
        for size in range(1, 6):
            for row in all_rows(size):
                words = first_words(row)
                for other in all_rows(size):
                    self.check_pair(row, other, words)

    def test_all_rows_that_come_from_long_rows(self):
        for row in LONG_ROWS:
            for other, word in first_words(row).items():
                self.assert_same(word_to(row, other), word)

    def test_there_is_only_one_shortest_word(self):
        for row in SMALL_ROWS:
            for other in reachable(row):
                length = len(word_to(row, other))
                words = [word for word in words_up_to(length) if walk_word(row, word) == other]
                self.assertEqual(words, [word_to(row, other)])

    def test_drawn_pairs(self):
        met = set()
        for row in ROWS:
            words = first_words(row)
            for other in changed_rows(row):
                self.check_pair(row, other, words)
                met.add((len(row), other in words))
        self.assertEqual(met, {(size, True) for size in range(1, 13)} | {(size, False) for size in range(3, 13)})

    def test_rows_that_reachable_returns(self):
        for row in SMALL_ROWS + [row for row in ROWS if len(row) <= 7]:
            for other in reachable(row):
                self.assert_same(walk_word(row, word_to(row, other)), other)
                self.assert_same(mismatches(row, other), ())

    def test_by_name(self):
        self.assert_same(word_to(row=(2, 4, 1, 3), other=(4, 2, 3, 1)), "S")
        self.assert_same(word_to((2, 4, 1, 3), other=(4, 2, 3, 1)), "S")
        self.assert_same(word_to(other=(4, 2, 3, 1), row=(2, 4, 1, 3)), "S")
        self.assert_same(mismatches(row=(1, 2, 3, 4), other=(1, 3, 2, 4)), ((0, 1), (1, 1)))
        self.assert_same(mismatches(other=(1, 3, 2, 4), row=(1, 2, 3, 4)), ((0, 1), (1, 1)))


class Errors(PromiseCase):
    def test_rows(self):
        for call in (word_to, mismatches):
            for row, index in WRONG_ROWS:
                with self.subTest(call=call.__name__, index=index):
                    self.assert_error(InvalidRow, "index", index, call, row, (2, 4))
                    self.assert_error(InvalidRow, "index", index, call, (2, 4), row)
                    self.assert_error(InvalidRow, "index", index, call, row, row)

    def test_order(self):
        for call in (word_to, mismatches):
            for other, index in (((2, True), 1), ([2, 4], None), ((2, Odd(), 2), 1), (Odd(), None)):
                self.assert_order(
                    call,
                    ("row", (2, 4), (4, 2, 4), InvalidRow, "index", 2),
                    ("other", (4, 2), other, InvalidRow, "index", index),
                )

    def test_other_people(self):
        for call in (word_to, mismatches):
            for row, other in (
                ((1, 2, 3), (1, 2, 4)), ((1, 2, 3), (1, 2)), ((1, 2), (1, 2, 3)), ((1,), (2,)), ((1, 2), (3, 4)),
                (tuple(range(1, 13)), tuple(range(2, 14))), (tuple(range(1, 13)), tuple(range(1, 12))),
            ):
                self.assert_plain_error(OtherPersons, call, row, other)
                self.assert_plain_error(OtherPersons, call, other=other, row=row)

    def test_other_people_come_last(self):
        for call in (word_to, mismatches):
            self.assert_error(InvalidRow, "index", 1, call, (1, 1), (2, 3))
            self.assert_error(InvalidRow, "index", 1, call, (1, 2), (3, 3))
            self.assert_error(InvalidRow, "index", None, call, (1, 2), ())
            self.assert_error(InvalidRow, "index", 0, call, (1, 2), (True, 2))


class Arguments(PromiseCase):
    def test_results_are_new_tuples(self):
        for row in SMALL_ROWS:
            for passes in (None, 0, 1):
                found = reachable(row, passes=passes)
                self.assertIs(type(found), tuple)
                for people in found:
                    self.assertIs(type(people), tuple)
                    self.assertIsNot(people, row)

    def test_nothing_is_modified_and_equal_calls_return_equal_results(self):
        for row in ROWS:
            before = list(row)
            equal_row = tuple(before)
            for other in changed_rows(row):
                self.assert_same(word_to(row, other), word_to(equal_row, tuple(list(other))))
                self.assert_same(mismatches(row, other), mismatches(equal_row, tuple(list(other))))
            if len(row) <= 8:
                self.assert_same(reachable(row), reachable(equal_row))
            self.assertEqual(list(row), before)

    def test_a_list_is_refused_and_stays_as_it_was(self):
        people = [1, 2, 3]
        self.assert_error(InvalidRow, "index", None, reachable, people)
        self.assert_error(InvalidRow, "index", None, word_to, (1, 2, 3), people)
        self.assert_error(InvalidRow, "index", None, mismatches, people, (1, 2, 3))
        self.assertEqual(people, [1, 2, 3])


if __name__ == "__main__":
    unittest.main()
