"""lastpasses.equality: which words have the same effect, and the words of all effects in order."""

import random
import unittest

from lastpasses.equality import difference, is_constant, number_of, same, shortest, word_at, word_count
from lastpasses.errors import InvalidNumber, InvalidSize, InvalidWord
from common import (
    LONG_ROWS, ODD_VALUES, TEXTS, WRONG_SIZES, WRONG_WORDS, Odd, PromiseCase, all_rows, walk_at_the_chair, walk_word,
    words_up_to,
)

MOST = 5

RANDOM = random.Random(11)

LONG_WORDS = ["", "S", "T", "S" * 400, "T" * 400, "ST" * 200, "TS" * 200, "T" + "S" * 399] + [
    "".join(RANDOM.choice("ST") for _ in range(length)) for length in (5, 9, 10, 11, 12, 13, 30, 400)
]


def effects(size, words):
    """For each word the rows into which it turns all rows of this size."""
    found = {"": tuple(all_rows(size))}
    for word in words:
        if word not in found:
            # The last pass acts on the rows that the letters before it leave; shorter words come first.
            found[word] = tuple(walk_at_the_chair(row, word[-1])[0] for row in found[word[:-1]])
    return found


def drawn_pairs():
    """Pairs of words that share no end, a short one, a long one, or everything."""
    words = ["".join(RANDOM.choice("ST") for _ in range(RANDOM.randrange(15))) for _ in range(60)]
    for one in words:
        for other in words:
            yield one, other
        end = one[RANDOM.randrange(len(one) + 1):]
        yield one, end
        yield end, "T" + end
        yield "S" + end, end
        yield "ST" + end, "T" + end


class AllRows(PromiseCase):
    def test_shortest_and_is_constant(self):
        for size in range(1, MOST + 1):
            words = words_up_to(size + 1)
            found = effects(size, words)
            for word in words:
                short = shortest(word, size)
                self.assertEqual(found[short], found[word])
                wanted = min((other for other in words if found[other] == found[word]), key=len)
                self.assert_same(short, wanted)
                self.assertIs(is_constant(word, size), len(set(found[word])) == 1)

    def test_same(self):
        for size in range(1, MOST + 1):
            words = words_up_to(size + 1)
            found = effects(size, words)
            for word in words:
                for other in words:
                    self.assertIs(same(word, other, size), found[word] == found[other])

    def test_difference(self):
        for size in range(1, MOST + 1):
            words = words_up_to(size + 1)
            found = effects(size, words)
            index_of = {row: index for index, row in enumerate(all_rows(size))}
            for word in words:
                for other in words:
                    row = difference(word, other, size)
                    if found[word] == found[other]:
                        self.assertIsNone(row)
                    else:
                        self.assertIs(type(row), tuple)
                        self.assertNotEqual(found[word][index_of[row]], found[other][index_of[row]])

    def test_word_count(self):
        for size in range(1, MOST + 1):
            found = effects(size, words_up_to(size + 1))
            self.assert_same(word_count(size), len(set(found.values())))


class LongWords(PromiseCase):
    def test_shortest(self):
        for word in LONG_WORDS:
            self.assert_same(shortest(word, 1), "")
            for size in range(2, 13):
                self.assert_same(shortest(word, size), word[-(size - 1):])

    def test_the_shortest_word_has_the_same_effect(self):
        for word in LONG_WORDS:
            for row in LONG_ROWS:
                for size in range(1, 13):
                    self.assertEqual(walk_word(row[:size], shortest(word, size)), walk_word(row[:size], word))

    def test_same_and_difference(self):
        for word in LONG_WORDS:
            for other in LONG_WORDS:
                for size in (1, 2, 7, 11, 12):
                    self.check_pair(word, other, size)

    def test_drawn_words_of_all_sizes(self):
        for number, (word, other) in enumerate(drawn_pairs()):
            self.check_pair(word, other, 12)
            self.check_pair(word, other, 1 + number % 12)

    def check_pair(self, word, other, size):
        wanted = word[max(0, len(word) - size + 1):] == other[max(0, len(other) - size + 1):]
        self.assertIs(same(word, other, size), wanted)
        row = difference(word, other, size)
        self.assert_same(row, difference(word, other, size))
        if wanted:
            self.assertIsNone(row)
        else:
            self.assertIs(type(row), tuple)
            self.assertEqual(sorted(row), list(range(1, size + 1)))
            self.assertNotEqual(walk_word(row, word), walk_word(row, other))

    def test_is_constant(self):
        for size in range(1, 13):
            for length in list(range(14)) + [400]:
                for word in ("S" * length, "T" * length, ("ST" * 200)[:length]):
                    self.assertIs(is_constant(word, size), length >= size - 1)


class Order(PromiseCase):
    def test_word_count(self):
        self.assertEqual(
            [word_count(size) for size in range(1, 13)],
            [1, 3, 7, 15, 31, 63, 127, 255, 511, 1023, 2047, 4095],
        )

    def test_all_words_of_all_sizes_one_behind_the_other(self):
        for size in range(1, 13):
            wanted = sorted(words_up_to(size - 1), key=lambda word: (len(word), word))
            self.assertEqual(len(wanted), word_count(size))
            for number, word in enumerate(wanted):
                self.assert_same(word_at(size, number), word)
                self.assert_same(number_of(word, size), number)

    def test_known_words(self):
        self.assertEqual([word_at(3, number) for number in range(7)], ["", "S", "T", "SS", "ST", "TS", "TT"])
        self.assert_same(word_at(12, 4094), "T" * 11)
        self.assert_same(word_at(1, 0), "")
        self.assert_same(number_of("TST", 3), 4)
        self.assert_same(number_of("S" * 400, 1), 0)

    def test_number_of_longer_words(self):
        for size in range(1, 7):
            for word in words_up_to(size + 2):
                self.assert_same(number_of(word, size), number_of(shortest(word, size), size))
                self.assert_same(word_at(size, number_of(word, size)), shortest(word, size))
        for word in LONG_WORDS:
            for size in range(1, 13):
                self.assert_same(word_at(size, number_of(word, size)), shortest(word, size))

    def test_there_is_no_such_word(self):
        for size in range(1, 13):
            for number in (2 ** size - 1, 2 ** size, 10 ** 59, -1, -2, -(10 ** 59), True, False):
                self.assert_error(InvalidNumber, "number", number, word_at, size, number)
            for number in ODD_VALUES + TEXTS:
                with self.subTest(size=size, number=str(type(number))):
                    self.assert_error(InvalidNumber, "number", number, word_at, size, number)


class Names(PromiseCase):
    def test_by_name(self):
        self.assert_same(shortest(word="TTSST", size=4), "SST")
        self.assert_same(shortest(size=4, word="TTSST"), "SST")
        self.assert_same(same(word="TTSST", other="SSST", size=4), True)
        self.assert_same(same("T", size=3, other="TT"), False)
        self.assert_same(difference(word="TST", other="SST", size=3), None)
        row = difference(size=3, other="TS", word="ST")
        self.assertNotEqual(walk_word(row, "ST"), walk_word(row, "TS"))
        self.assert_same(is_constant(word="ST", size=3), True)
        self.assert_same(is_constant("ST", size=4), False)
        self.assert_same(word_count(size=4), 15)
        self.assert_same(word_at(size=3, number=4), "ST")
        self.assert_same(word_at(number=2, size=3), "T")
        self.assert_same(number_of(word="TST", size=3), 4)
        self.assert_same(number_of(size=3, word="TST"), 4)


class Errors(PromiseCase):
    def test_words(self):
        for word, index in WRONG_WORDS:
            with self.subTest(index=index):
                for call in (shortest, is_constant, number_of):
                    self.assert_error(InvalidWord, "index", index, call, word, 4)
                for call in (same, difference):
                    self.assert_error(InvalidWord, "index", index, call, word, "ST", 4)
                    self.assert_error(InvalidWord, "index", index, call, "ST", word, 4)
                    self.assert_error(InvalidWord, "index", index, call, word, word, 4)

    def test_sizes(self):
        for size in WRONG_SIZES:
            with self.subTest(size=str(type(size))):
                for call in (shortest, is_constant, number_of):
                    self.assert_error(InvalidSize, "size", size, call, "ST", size)
                for call in (same, difference):
                    self.assert_error(InvalidSize, "size", size, call, "ST", "TS", size)
                    self.assert_error(InvalidSize, "size", size, call, "ST", "ST", size)
                self.assert_error(InvalidSize, "size", size, word_count, size)
                self.assert_error(InvalidSize, "size", size, word_at, size, 0)

    def test_order(self):
        for size in (0, 13, True, None, Odd()):
            for call in (shortest, is_constant, number_of):
                self.assert_order(
                    call,
                    ("word", "ST", "S?", InvalidWord, "index", 1),
                    ("size", 4, size, InvalidSize, "size", size),
                )
            for call in (same, difference):
                self.assert_order(
                    call,
                    ("word", "ST", "S?", InvalidWord, "index", 1),
                    ("other", "TS", None, InvalidWord, "index", None),
                    ("size", 4, size, InvalidSize, "size", size),
                )
            for number in (15, -1, True, None, Odd()):
                self.assert_order(
                    word_at,
                    ("size", 4, size, InvalidSize, "size", size),
                    ("number", 3, number, InvalidNumber, "number", number),
                )


if __name__ == "__main__":
    unittest.main()
