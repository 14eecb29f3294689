"""lastpasses.papers: the true claim of two, with a paper that the checker accepts."""

import itertools
import random
import unittest

from lastpasses.checker import check
from lastpasses.errors import (
    InvalidHeights, InvalidRecord, InvalidRow, InvalidSize, InvalidWishes, InvalidWord, OtherPersons,
)
from lastpasses.observations import comparisons, find_order
from lastpasses.papers import order_paper, path_paper, place_paper, word_paper
from lastpasses.reach import mismatches, word_to
from lastpasses.wishes import first_word
from common import (
    LONG_ROWS, WRONG_HEIGHTS, WRONG_ROWS, WRONG_SIZES, WRONG_WORDS, Odd, PromiseCase, all_rows, rows_of_all_sizes,
    walk_word, words_up_to,
)
from reference_checker import accepts, allowed, is_true
from sample_records import (
    FIRST, IMPOSSIBLE, NAMES, SECOND, THIRD, drawn_records, one_changed, wrong_record_tuples,
)

RANDOM = random.Random(53)

SMALL_HEIGHTS = ((7,), (1, 999), (5, 20, 21), (1, 2, 3, 4))


def all_wishes(heights):
    for many in range(len(heights) + 1):
        for indexes in itertools.combinations(range(len(heights)), many):
            for wished in itertools.permutations(heights, many):
                yield tuple(zip(wished, indexes))


def drawn_wishes(heights, many):
    return tuple(zip(RANDOM.sample(heights, many), sorted(RANDOM.sample(range(len(heights)), many))))


def reached(heights, wishes):
    """For each index from the last one to 0 the counts that are reached, placing by placing."""
    found = [set() for _ in heights]

    def place(index, count):
        if index < 0:
            return
        at = len(heights) - 1 - index
        for rank, following in ((count + 1, count + 1), (count + index + 1, count)):
            if allowed(heights, wishes, index, heights[rank - 1]):
                if following not in found[at]:
                    found[at].add(following)
                    place(index - 1, following)

    place(len(heights) - 1, 0)
    return tuple(tuple(sorted(counts)) for counts in found)


class Papers(PromiseCase):
    def accept(self, claim, paper):
        self.assertIs(type(claim), tuple)
        self.assertIs(check(claim, paper), True)
        self.assertTrue(accepts(claim, paper))


class PathPaper(Papers):
    def check_pair(self, row, other):
        claim, paper = pair = path_paper(row, other)
        self.assertIs(type(pair), tuple)
        word = word_to(row, other)
        if word is None:
            self.assert_same(claim, ("no path", row, other))
            self.assert_same(paper, mismatches(row, other))
        else:
            self.assert_same(claim, ("path", row, other))
            self.assert_same(paper, word)
        self.accept(claim, paper)
        return claim[0]

    def test_known_papers(self):
        self.assert_same(path_paper((1, 2, 3), (1, 3, 2)), (("no path", (1, 2, 3), (1, 3, 2)), ((0, 1),)))
        self.assert_same(path_paper((2, 4, 1, 3), (4, 2, 3, 1)), (("path", (2, 4, 1, 3), (4, 2, 3, 1)), "S"))

    def test_all_pairs_of_few_people(self):
        for size in range(1, 6):
            for row in all_rows(size)[::max(1, size - 2)]:
                for other in all_rows(size):
                    self.check_pair(row, other)
                    if size < 4:
                        self.assertTrue(is_true(path_paper(row, other)[0]))

    def test_long_rows(self):
        met = set()
        for row in rows_of_all_sizes():
            for length in range(len(row) + 1):
                other = walk_word(row, "".join(RANDOM.choice("ST") for _ in range(length)))
                met.add(self.check_pair(row, other))
                met.add(self.check_pair(other, row))
                met.add(self.check_pair(row, tuple(RANDOM.sample(other, len(other)))))
        self.assertEqual(met, {"path", "no path"})

    def test_by_name(self):
        wanted = path_paper((1, 2, 3), (1, 3, 2))
        self.assert_same(path_paper(row=(1, 2, 3), other=(1, 3, 2)), wanted)
        self.assert_same(path_paper(other=(1, 3, 2), row=(1, 2, 3)), wanted)

    def test_errors(self):
        for row, index in WRONG_ROWS:
            self.assert_error(InvalidRow, "index", index, path_paper, row, (2, 4))
            self.assert_error(InvalidRow, "index", index, path_paper, (2, 4), row)
        for other in ((2, True), (4, 4), (2, Odd())):
            self.assert_order(
                path_paper,
                ("row", (2, 4), (True, 2), InvalidRow, "index", 0),
                ("other", (4, 2), other, InvalidRow, "index", 1),
            )
        self.assert_plain_error(OtherPersons, path_paper, (1, 2), (1, 3))
        self.assert_plain_error(OtherPersons, path_paper, other=(1, 2, 3), row=(1, 2))


class WordPaper(Papers):
    def check_words(self, word, other, size):
        claim, paper = word_paper(word, other, size)
        self.assert_same(claim, (claim[0], size, word, other))
        self.assertEqual(paper is None, claim[0] == "same")
        self.accept(claim, paper)
        return claim

    def test_known_papers(self):
        self.assert_same(word_paper("TTSST", "SSST", 4), (("same", 4, "TTSST", "SSST"), None))
        self.assert_same(word_paper("ST", "TS", 3)[0], ("different", 3, "ST", "TS"))

    def test_all_words_of_few_letters(self):
        for size in range(1, 4):
            for word, other in itertools.product(words_up_to(size), repeat=2):
                self.assertTrue(is_true(self.check_words(word, other, size)))

    def test_long_words(self):
        met = set()
        for size in range(1, 13):
            for _ in range(20):
                end = "".join(RANDOM.choice("ST") for _ in range(max(0, size - 1 - RANDOM.randrange(3))))
                words = ["".join(RANDOM.choice("ST") for _ in range(RANDOM.randrange(5))) + end for _ in range(2)]
                met.add(self.check_words(words[0], words[1], size)[0])
        self.assertEqual(met, {"same", "different"})
        self.check_words("S" * 400, "T" * 400, 12)
        self.check_words("S" * 400, "S" * 399, 12)
        self.check_words("", "S" * 400, 12)

    def test_by_name(self):
        wanted = word_paper("TTSST", "SSST", 4)
        self.assert_same(word_paper(word="TTSST", other="SSST", size=4), wanted)
        self.assert_same(word_paper(size=4, other="SSST", word="TTSST"), wanted)

    def test_errors(self):
        for word, index in WRONG_WORDS:
            self.assert_error(InvalidWord, "index", index, word_paper, word, "S", 3)
            self.assert_error(InvalidWord, "index", index, word_paper, "S", word, 3)
        for size in WRONG_SIZES:
            self.assert_error(InvalidSize, "size", size, word_paper, "S", "T", size)
        self.assert_order(
            word_paper,
            ("word", "S", "Ss", InvalidWord, "index", 1),
            ("other", "T", None, InvalidWord, "index", None),
            ("size", 3, 13, InvalidSize, "size", 13),
        )


class OrderPaper(Papers):
    def check_records(self, records, by_search):
        claim, paper = order_paper(records)
        order = find_order(records)
        if order is None:
            self.assert_same(claim, ("no order", records))
            impossible = any(comparisons(record) is None for record in records)
            self.assertEqual(paper[0], "impossible" if impossible else "cycle")
        else:
            self.assert_same(claim, ("order", records))
            self.assert_same(paper, order)
        self.assertIs(check(claim, paper), True)
        if by_search:
            self.assertTrue(accepts(claim, paper))
            self.assertTrue(is_true(claim))
        return paper[0] if order is None else "order"

    def test_known_papers(self):
        self.assert_same(order_paper((FIRST, SECOND)), (("order", (FIRST, SECOND)), ("cy", "ann", "bob")))
        self.assert_same(order_paper((FIRST, IMPOSSIBLE)), (("no order", (FIRST, IMPOSSIBLE)), ("impossible", 1)))
        claim, paper = order_paper((FIRST, THIRD))
        self.assert_same((claim[0], paper[0]), ("no order", "cycle"))

    def test_few_names(self):
        met = set()
        for size in range(2, 6):
            for many in (1, 2, 3, 5, 20):
                for _ in range(5):
                    records = drawn_records(RANDOM, RANDOM.sample(NAMES, size), many)
                    for chosen in (records, one_changed(RANDOM, records)):
                        met.add(self.check_records(chosen, True))
        self.assertEqual(met, {"order", "impossible", "cycle"})

    def test_twelve_names(self):
        met = set()
        for many in (1, 2, 3, 5, 20):
            for _ in range(12):
                records = drawn_records(RANDOM, NAMES, many)
                for chosen in (records, one_changed(RANDOM, records)):
                    met.add(self.check_records(chosen, False))
        self.assertEqual(met, {"order", "impossible", "cycle"})

    def test_long_cycles(self):
        """Each record tells only of two neighbours that one is shorter, and the last one closes the ring."""
        for size in (3, 5, 12):
            names = tuple(sorted(NAMES[:size]))
            records = (
                (names, "T", names),
                (names[-1:] + names[:-1], "T", names[-1:] + names[:-1]),
            )
            self.check_records(records, size <= 5)

    def test_by_name(self):
        self.assert_same(order_paper(records=(FIRST,)), (("order", (FIRST,)), ("ann", "cy", "bob")))

    def test_errors(self):
        for records, index in wrong_record_tuples():
            self.assert_error(InvalidRecord, "index", index, order_paper, records)


class PlacePaper(Papers):
    def check_wishes(self, heights, wishes):
        claim, paper = place_paper(heights, wishes)
        word = first_word(heights, wishes)
        if word is None:
            self.assert_same(claim, ("not placed", heights, wishes))
            self.assert_same(paper, reached(heights, wishes))
            self.assert_same(paper[-1], ())
        else:
            self.assert_same(claim, ("placed", heights, wishes))
            self.assert_same(paper, word)
        self.accept(claim, paper)
        return claim

    def test_known_papers(self):
        four = (1, 2, 3, 4)
        self.assert_same(place_paper(four, ((1, 1), (4, 2))),
                         (("not placed", four, ((1, 1), (4, 2))), ((), (), (), ())))
        self.assert_same(place_paper(four, ((2, 1),)), (("placed", four, ((2, 1),)), "SST"))
        self.assert_same(place_paper((1, 2, 3, 4, 5), ((4, 2), (2, 3)))[1], ((0, 1), (2,), (), (), ()))

    def test_all_wishes_of_few_heights(self):
        for heights in SMALL_HEIGHTS:
            for wishes in all_wishes(heights):
                self.assertTrue(is_true(self.check_wishes(heights, wishes)))

    def test_longer_heights(self):
        met = set()
        for size in (5, 6, 8, 12):
            heights = tuple(sorted(LONG_ROWS[3][:size]))
            for many in range(size + 1):
                for _ in range(12):
                    met.add(self.check_wishes(heights, drawn_wishes(heights, many))[0])
        self.assertEqual(met, {"placed", "not placed"})

    def test_by_name(self):
        wanted = place_paper((1, 2, 3, 4), ((2, 1),))
        self.assert_same(place_paper(heights=(1, 2, 3, 4), wishes=((2, 1),)), wanted)
        self.assert_same(place_paper(wishes=((2, 1),), heights=(1, 2, 3, 4)), wanted)

    def test_errors(self):
        for heights, index in WRONG_HEIGHTS:
            self.assert_error(InvalidHeights, "index", index, place_paper, heights, ())
        for wishes, index in (
            (None, None), ([], None), ("", None), (Odd(), None), ((None,), 0), (((1, 0), (1, 1)), 1),
            (((1, 0), (2, 0)), 1), (((5, 0),), 0), (((1, 4),), 0), (((1, True),), 0), (((True, 0),), 0),
            (((1, 0), [2, 1]), 1), (((1, -1),), 0), (((1, 0, 0),), 0),
        ):
            self.assert_error(InvalidWishes, "index", index, place_paper, (1, 2, 3, 4), wishes)
            self.assert_order(
                place_paper,
                ("heights", (1, 2, 3, 4), (1, 2, 2), InvalidHeights, "index", 2),
                ("wishes", (), wishes, InvalidWishes, "index", index),
            )


class Arguments(Papers):
    def test_equal_calls_return_equal_results(self):
        records = one_changed(RANDOM, drawn_records(RANDOM, NAMES, 4))
        self.assert_same(order_paper(records), order_paper(tuple(list(records))))
        self.assert_same(path_paper((1, 2, 3), (1, 3, 2)), path_paper((1, 2, 3), tuple([1, 3, 2])))
        self.assert_same(word_paper("ST", "TS", 3), word_paper("S" + "T", "TS", 3))
        self.assert_same(place_paper((1, 2), ()), place_paper(tuple([1, 2]), ()))


if __name__ == "__main__":
    unittest.main()
