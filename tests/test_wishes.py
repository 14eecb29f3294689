"""lastpasses.wishes: words whose final rows have wished people at wished places."""

import itertools
import random
import unittest

from lastpasses.errors import InvalidHeights, InvalidWishes
from lastpasses.finals import final_row, place_counts
from lastpasses.wishes import count_words, first_word
from common import (
    NUMBERS, TEXTS, WRONG_HEIGHTS, Agreeable, Odd, PromiseCase, all_words, nested, walk_word,
)

RANDOM = random.Random(19)

SMALL_HEIGHTS = ((7,), (1, 999), (5, 20, 999), (1, 2, 3, 4), (10, 170, 180, 181, 500))

LONG_HEIGHTS = (tuple(range(1, 13)), (1, 5, 160, 165, 170, 175, 180, 190, 200, 201, 998, 999), tuple(range(2, 10)))

FOUR = (1, 2, 3, 4)

# Values that are no wishes for the heights 1 to 4, with the index of InvalidWishes.
WRONG_WISHES = (
    (None, None), (True, None), (0, None), ([], None), ([(1, 0)], None), ({}, None), ({1: 0}, None), (b"", None),
    (range(0), None), (object(), None), (Odd(), None), (Agreeable(), None), (len, None),
    ((1,), 0), ((1, 0), 0), ((None,), 0), ((True,), 0), (("10",), 0), ((b"10",), 0), ((Odd(),), 0), ((Agreeable(),), 0),
    (((),), 0), (((1,),), 0), (((1, 0, 0),), 0), (([1, 0],), 0), (({1: 0},), 0), ((((1, 0),),), 0), ((nested(17),), 0),
    (((5, 0),), 0), (((0, 0),), 0), (((-1, 0),), 0), (((1000, 0),), 0), (((10 ** 59, 0),), 0),
    (((True, 0),), 0), (((False, 0),), 0), (((None, 0),), 0), ((("1", 0),), 0), ((((1,), 0),), 0), ((([], 0),), 0),
    (((Odd(), 0),), 0), (((Agreeable(), 0),), 0),
    (((1, 4),), 0), (((1, -1),), 0), (((1, 12),), 0), (((1, 10 ** 59),), 0), (((1, -(10 ** 59)),), 0),
    (((1, True),), 0), (((1, False),), 0), (((1, None),), 0), (((1, "0"),), 0), (((1, (0,)),), 0), (((1, Odd()),), 0),
    (((1, Agreeable()),), 0), (((Odd(), Odd()),), 0),
    (((1, 0), (2, 0)), 1), (((1, 1), (2, 0)), 1), (((1, 0), (1, 0)), 1), (((1, 0), (1, 1)), 1),
    (((1, 0), (2, 1), (1, 2)), 2), (((1, 0), (2, 2), (3, 1)), 2), (((1, 0), (2, 2), (3, 1), Odd()), 2),
    (((1, 0), (2, 1), (3, True)), 2), (((2, 0), (True, 1)), 1), (((2, 0), (1, True)), 1), (((2, 0), [1, 1]), 1),
    (((2, 0), (5, 1)), 1), (((2, 0), (1, 4)), 1), (((2, 0), Odd(), Odd()), 1), (((2, 0), Agreeable()), 1),
    (((1, 0), (2, 1), (3, 2), (4, 3), (4, 3)), 4), (((1, 0), (2, 1), (3, 2), (4, 3), (1, 4)), 4),
    (((1, 0), (2, 1), (3, 2), (3, 3)), 3), (((1, 0),) * 2000, 1), ((1, 0) * 1000, 0),
) + tuple((value, None) for value in NUMBERS + TEXTS)


def all_wishes(heights):
    """Every tuple of wishes for these heights."""
    size = len(heights)
    for many in range(size + 1):
        for indexes in itertools.combinations(range(size), many):
            for wished in itertools.permutations(heights, many):
                yield tuple(zip(wished, indexes))


def drawn_wishes(heights, many):
    indexes = sorted(RANDOM.sample(range(len(heights)), many))
    return tuple(zip(RANDOM.sample(heights, many), indexes))


def wishes_of_a_row(row, many):
    """Wishes that this row keeps."""
    indexes = sorted(RANDOM.sample(range(len(row)), many))
    return tuple((row[index], index) for index in indexes)


def rows_of_words(heights):
    """For each word, in order, the row into which it turns the rows of these heights."""
    row = tuple(reversed(heights))
    return {word: walk_word(row, word) for word in all_words(len(heights) - 1)}


class Wishes(PromiseCase):
    def check_wishes(self, rows, heights, wishes):
        words = [word for word in rows if all(rows[word][index] == height for height, index in wishes)]
        self.assert_same(count_words(heights, wishes), len(words))
        self.assert_same(first_word(heights, wishes), words[0] if words else None)

    def test_known_words(self):
        self.assert_same(count_words(FOUR, ((2, 1),)), 3)
        self.assert_same(count_words(FOUR, ((2, 1), (4, 2))), 1)
        self.assert_same(count_words(FOUR, ((1, 1), (4, 2))), 0)
        self.assert_same(first_word(FOUR, ((2, 1),)), "SST")
        self.assert_same(first_word(FOUR, ((2, 1), (4, 2))), "STS")
        self.assert_same(first_word(FOUR, ((1, 1), (4, 2))), None)

    def test_no_wishes(self):
        for heights in SMALL_HEIGHTS + LONG_HEIGHTS:
            self.assert_same(count_words(heights, ()), 2 ** (len(heights) - 1))
            self.assert_same(first_word(heights, ()), "S" * (len(heights) - 1))

    def test_one_height(self):
        self.assert_same(count_words((7,), ((7, 0),)), 1)
        self.assert_same(first_word((7,), ((7, 0),)), "")

    def test_all_wishes_for_few_heights(self):
        for heights in SMALL_HEIGHTS:
            rows = rows_of_words(heights)
            for wishes in all_wishes(heights):
                self.check_wishes(rows, heights, wishes)

    def test_drawn_wishes_for_many_heights(self):
        for heights in LONG_HEIGHTS:
            rows = rows_of_words(heights)
            for many in range(len(heights) + 1):
                for _ in range(8):
                    self.check_wishes(rows, heights, drawn_wishes(heights, many))
                    self.check_wishes(rows, heights, wishes_of_a_row(RANDOM.choice(list(rows.values())), many))

    def test_wishes_for_each_index(self):
        for heights in SMALL_HEIGHTS + LONG_HEIGHTS:
            size = len(heights)
            for _ in range(20):
                word = "".join(RANDOM.choice("ST") for _ in range(size - 1))
                row = final_row(heights, word)
                wishes = tuple((height, index) for index, height in enumerate(row))
                self.assert_same(count_words(heights, wishes), 1)
                self.assert_same(first_word(heights, wishes), word)

    def test_wishes_that_no_word_keeps(self):
        for heights in LONG_HEIGHTS:
            last = len(heights) - 1
            for wishes in (
                ((heights[4], last),),
                ((heights[0], last - 1), (heights[1], last)),
                ((heights[-1], 0), (heights[0], 1), (heights[2], 2)),
                tuple((heights[(index + 3) % (last + 1)], index) for index in range(last + 1)),
            ):
                self.assert_same(count_words(heights, wishes), 0)
                self.assert_same(first_word(heights, wishes), None)

    def test_one_wish_and_the_counts_of_places(self):
        for size in range(1, 13):
            heights = tuple(range(1, size + 1))
            for rank in heights:
                found = tuple(count_words(heights, ((rank, index),)) for index in range(size))
                self.assert_same(found, place_counts(size, rank))

    def test_by_name(self):
        wishes = ((2, 1),)
        self.assert_same(count_words(heights=FOUR, wishes=wishes), 3)
        self.assert_same(count_words(FOUR, wishes=wishes), 3)
        self.assert_same(count_words(wishes=wishes, heights=FOUR), 3)
        self.assert_same(first_word(heights=FOUR, wishes=wishes), "SST")
        self.assert_same(first_word(FOUR, wishes=wishes), "SST")
        self.assert_same(first_word(wishes=wishes, heights=FOUR), "SST")


class Errors(PromiseCase):
    def test_heights(self):
        for call in (count_words, first_word):
            for heights, index in WRONG_HEIGHTS:
                with self.subTest(call=call.__name__, index=index):
                    self.assert_error(InvalidHeights, "index", index, call, heights, ())
                    self.assert_error(InvalidHeights, "index", index, call, heights, ((1, 0),))

    def test_wishes(self):
        for call in (count_words, first_word):
            for number, (wishes, index) in enumerate(WRONG_WISHES):
                with self.subTest(call=call.__name__, number=number):
                    self.assert_error(InvalidWishes, "index", index, call, FOUR, wishes)

    def test_indexes_of_a_row_of_these_heights(self):
        for call in (count_words, first_word):
            for size in range(1, 13):
                heights = tuple(range(1, size + 1))
                self.assert_error(InvalidWishes, "index", 0, call, heights, ((1, size),))
                self.assert_error(InvalidWishes, "index", 0, call, heights, ((size + 1, 0),))
                self.assertIsNotNone(call(heights, ((1, size - 1),)))

    def test_order(self):
        for call in (count_words, first_word):
            for wishes, index in ((None, None), (((1, 0), (5, 1)), 1), ([(1, 0)], None), ((Odd(),), 0)):
                self.assert_order(
                    call,
                    ("heights", FOUR, (1, 1), InvalidHeights, "index", 1),
                    ("wishes", ((1, 0),), wishes, InvalidWishes, "index", index),
                )


class Arguments(PromiseCase):
    def test_nothing_is_modified_and_equal_calls_return_equal_results(self):
        for heights in LONG_HEIGHTS:
            for many in range(len(heights) + 1):
                wishes = drawn_wishes(heights, many)
                before = (list(heights), list(wishes))
                equal_wishes = tuple(tuple(list(wish)) for wish in wishes)
                self.assert_same(count_words(heights, wishes), count_words(tuple(list(heights)), equal_wishes))
                self.assert_same(first_word(heights, wishes), first_word(tuple(list(heights)), equal_wishes))
                self.assertEqual((list(heights), list(wishes)), before)

    def test_a_list_is_refused_and_stays_as_it_was(self):
        wishes = [(1, 0)]
        self.assert_error(InvalidWishes, "index", None, count_words, FOUR, wishes)
        self.assert_error(InvalidWishes, "index", None, first_word, FOUR, wishes)
        self.assertEqual(wishes, [(1, 0)])


if __name__ == "__main__":
    unittest.main()
