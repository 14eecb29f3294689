"""lastpasses.finals: final rows, their words, and where people stand in them."""

import random
import unittest

from lastpasses.errors import (
    InvalidHeights, InvalidNumber, InvalidRow, InvalidSize, InvalidWord, NotFinal, WordTooShort,
)
from lastpasses.finals import final_row, final_word, is_final, place_counts
from common import (
    LONG_ROWS, ODD_VALUES, TEXTS, WRONG_HEIGHTS, WRONG_ROWS, WRONG_SIZES, WRONG_WORDS, Odd, PromiseCase, all_rows,
    all_words, rows_of_all_sizes, walk_word,
)

MOST = 6

RANDOM = random.Random(17)

HEIGHTS = tuple(tuple(sorted(row)) for row in rows_of_all_sizes())


def places_at_fault(row):
    """The indexes behind 0 of the people who are neither the tallest nor the shortest up to there."""
    found = []
    for index in range(1, len(row)):
        before = row[:index]
        taller = [person for person in before if person > row[index]]
        if 0 < len(taller) < index:
            found.append(index)
    return found


def drawn_word(length):
    return "".join(RANDOM.choice("ST") for _ in range(length))


def drawn_rows(heights):
    """Several rows of these heights."""
    people = list(heights)
    rows = [tuple(people), tuple(reversed(people))]
    for _ in range(3):
        RANDOM.shuffle(people)
        rows.append(tuple(people))
    return rows


class IsFinal(PromiseCase):
    def test_known_rows(self):
        self.assertIs(is_final((3, 2, 4, 1)), True)
        self.assertIs(is_final((1, 3, 2, 4)), False)
        self.assertIs(is_final((7,)), True)
        self.assertIs(is_final((170, 165, 180, 155)), True)

    def test_all_rows(self):
        for size in range(1, MOST + 1):
            results = {walk_word(tuple(range(1, size + 1)), word) for word in all_words(size - 1)}
            self.assertEqual(len(results), 2 ** (size - 1))
            for row in all_rows(size):
                self.assertIs(is_final(row), places_at_fault(row) == [])
                self.assertIs(is_final(row), row in results)

    def test_longer_rows(self):
        for heights in HEIGHTS:
            for row in drawn_rows(heights):
                self.assertIs(is_final(row), places_at_fault(row) == [])
                self.assertIs(is_final(walk_word(row, drawn_word(len(row) - 1))), True)

    def test_by_name(self):
        self.assertIs(is_final(row=(3, 2, 4, 1)), True)
        self.assertIs(is_final(row=(1, 3, 2, 4)), False)


class FinalRow(PromiseCase):
    def test_known_rows(self):
        self.assert_same(final_row((1, 2, 3, 4), "TSTS"), (3, 2, 4, 1))
        self.assert_same(final_row((1, 2, 3, 4), "STS"), (3, 2, 4, 1))
        self.assert_same(final_row((1, 2, 3, 4), "TTT"), (1, 2, 3, 4))
        self.assert_same(final_row((1, 2, 3, 4), "SSS"), (4, 3, 2, 1))
        self.assert_same(final_row((7,), ""), (7,))
        self.assert_same(final_row((7,), "STS"), (7,))

    def test_all_words(self):
        for size in range(1, MOST + 1):
            heights = tuple(range(1, size + 1))
            rows = all_rows(size)
            for length in (size - 1, size, size + 1):
                for word in all_words(length):
                    found = final_row(heights, word)
                    for row in rows[::7] + rows[-1:]:
                        self.assert_same(found, walk_word(row, word))

    def test_long_words_and_twelve_heights(self):
        for heights in HEIGHTS:
            size = len(heights)
            words = [drawn_word(length) for length in (size - 1, size, size + 1, 30, 400)]
            for word in words + ["S" * 400, "T" * 400, "ST" * 200]:
                found = final_row(heights, word)
                for row in drawn_rows(heights):
                    self.assert_same(found, walk_word(row, word))

    def test_the_word_is_too_short(self):
        for heights in HEIGHTS:
            for length in range(len(heights) - 1):
                self.assert_error(WordTooShort, "length", length, final_row, heights, "T" * length)
                self.assert_error(WordTooShort, "length", length, final_row, heights, drawn_word(length))

    def test_by_name(self):
        self.assert_same(final_row(heights=(1, 2, 3, 4), word="TSTS"), (3, 2, 4, 1))
        self.assert_same(final_row((1, 2, 3, 4), word="TSTS"), (3, 2, 4, 1))
        self.assert_same(final_row(word="TSTS", heights=(1, 2, 3, 4)), (3, 2, 4, 1))

    def test_errors(self):
        for heights, index in WRONG_HEIGHTS:
            with self.subTest(index=index):
                self.assert_error(InvalidHeights, "index", index, final_row, heights, "S" * 12)
                self.assert_error(InvalidHeights, "index", index, final_row, heights, "")
        for word, index in WRONG_WORDS:
            with self.subTest(index=index):
                self.assert_error(InvalidWord, "index", index, final_row, (1, 2), word)
                self.assert_error(InvalidWord, "index", index, final_row, tuple(range(1, 13)), word)

    def test_order(self):
        for wrong, index in (("S?", 1), (None, None), (Odd(), None), ("S" * 401, None)):
            self.assert_order(
                final_row,
                ("heights", (1, 2), (2, 1), InvalidHeights, "index", 1),
                ("word", "ST", wrong, InvalidWord, "index", index),
            )
        self.assert_error(InvalidHeights, "index", 2, final_row, (1, 2, 2, 4), "S")
        self.assert_error(InvalidWord, "index", 0, final_row, (1, 2, 3, 4), "s")


class FinalWord(PromiseCase):
    def test_known_words(self):
        self.assert_same(final_word((3, 2, 4, 1)), "STS")
        self.assert_same(final_word((7,)), "")
        self.assert_same(final_word((1, 999)), "T")
        self.assert_same(final_word((999, 1)), "S")

    def test_all_rows(self):
        for size in range(1, MOST + 1):
            for row in all_rows(size):
                faults = places_at_fault(row)
                if faults:
                    self.assert_error(NotFinal, "index", faults[-1], final_word, row)
                else:
                    word = final_word(row)
                    self.assertEqual(len(word), size - 1)
                    self.assert_same(final_row(tuple(range(1, size + 1)), word), row)
                    self.assert_same(walk_word(tuple(range(size, 0, -1)), word), row)

    def test_each_final_row_read_back(self):
        for heights in HEIGHTS:
            size = len(heights)
            for word in [drawn_word(size - 1) for _ in range(20)] + ["S" * (size - 1), "T" * (size - 1)]:
                self.assert_same(final_word(final_row(heights, word)), word)
            long_word = drawn_word(400)
            self.assert_same(final_word(final_row(heights, long_word)), long_word[401 - size:])

    def test_the_greatest_index_at_fault(self):
        self.assert_error(NotFinal, "index", 2, final_word, (1, 3, 2, 4))
        self.assert_error(NotFinal, "index", 4, final_word, (1, 5, 2, 4, 3))
        self.assert_error(NotFinal, "index", 2, final_word, (2, 4, 3, 5, 1))
        for row in LONG_ROWS:
            for people in drawn_rows(row):
                faults = places_at_fault(people)
                if faults:
                    self.assert_error(NotFinal, "index", faults[-1], final_word, people)

    def test_by_name(self):
        self.assert_same(final_word(row=(3, 2, 4, 1)), "STS")
        self.assert_error(NotFinal, "index", 2, final_word, row=(1, 3, 2, 4))

    def test_rows(self):
        for call in (is_final, final_word):
            for row, index in WRONG_ROWS:
                with self.subTest(call=call.__name__, index=index):
                    self.assert_error(InvalidRow, "index", index, call, row)
                    self.assert_error(InvalidRow, "index", index, call, row=row)


class PlaceCounts(PromiseCase):
    def test_known_counts(self):
        self.assert_same(place_counts(4, 2), (3, 3, 2, 0))
        self.assert_same(place_counts(1, 1), (1,))
        self.assert_same(place_counts(2, 1), (1, 1))
        self.assert_same(place_counts(3, 2), (2, 2, 0))
        self.assert_same(place_counts(3, 3), (1, 1, 2))

    def test_all_words(self):
        for size in range(1, 10):
            row = tuple(range(1, size + 1))
            counts = {(rank, index): 0 for rank in row for index in range(size)}
            for word in all_words(size - 1):
                for index, rank in enumerate(walk_word(row, word)):
                    counts[rank, index] += 1
            for rank in row:
                self.assert_same(place_counts(size, rank), tuple(counts[rank, index] for index in range(size)))

    def test_sums(self):
        for size in range(1, 13):
            table = [place_counts(size, rank) for rank in range(1, size + 1)]
            for counts in table:
                self.assertEqual(len(counts), size)
                self.assertEqual(sum(counts), 2 ** (size - 1))
            for index in range(size):
                self.assertEqual(sum(counts[index] for counts in table), 2 ** (size - 1))
            self.assertEqual(table, [counts for counts in reversed(table)])

    def test_by_name(self):
        self.assert_same(place_counts(size=4, rank=2), (3, 3, 2, 0))
        self.assert_same(place_counts(rank=2, size=4), (3, 3, 2, 0))
        self.assert_same(place_counts(4, rank=1), (1, 1, 2, 4))

    def test_errors(self):
        for size in WRONG_SIZES:
            with self.subTest(size=str(type(size))):
                self.assert_error(InvalidSize, "size", size, place_counts, size, 1)
        for size in range(1, 13):
            for rank in (0, -1, size + 1, 13, 10 ** 59, True, False):
                self.assert_error(InvalidNumber, "number", rank, place_counts, size, rank)
        for rank in ODD_VALUES + TEXTS:
            with self.subTest(rank=str(type(rank))):
                self.assert_error(InvalidNumber, "number", rank, place_counts, 4, rank)

    def test_order(self):
        for size in (0, 13, True, None, Odd()):
            for rank in (0, 5, True, None, Odd()):
                self.assert_order(
                    place_counts,
                    ("size", 4, size, InvalidSize, "size", size),
                    ("rank", 2, rank, InvalidNumber, "number", rank),
                )


class Arguments(PromiseCase):
    def test_results_are_new_tuples_and_the_heights_stay_as_they_were(self):
        for heights in HEIGHTS:
            before = list(heights)
            found = final_row(heights, "T" * 12)
            self.assert_same(found, heights)
            self.assertIsNot(found, heights)
            self.assertEqual(list(heights), before)

    def test_equal_calls_return_equal_results(self):
        for heights in HEIGHTS:
            word = drawn_word(20)
            equal_heights = tuple(list(heights))
            self.assert_same(final_row(heights, word), final_row(equal_heights, word))
            row = final_row(heights, word)
            self.assert_same(final_word(row), final_word(tuple(list(row))))

    def test_a_list_is_refused_and_stays_as_it_was(self):
        people = [1, 2, 3]
        self.assert_error(InvalidHeights, "index", None, final_row, people, "SST")
        self.assert_error(InvalidRow, "index", None, is_final, people)
        self.assert_error(InvalidRow, "index", None, final_word, people)
        self.assertEqual(people, [1, 2, 3])


if __name__ == "__main__":
    unittest.main()
