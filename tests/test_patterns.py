"""lastpasses.patterns: partly unreadable passes, and how they can be read."""

import itertools
import random
import unittest

from lastpasses.errors import InvalidPattern, InvalidRow, OtherPersons
from lastpasses.patterns import count_readings, first_reading
from common import (
    LONG_ROWS, NUMBERS, ODD_VALUES, WRONG_ROWS, Agreeable, Odd, PromiseCase, all_rows, rows_of_all_sizes, walk_word,
)

RANDOM = random.Random(37)

CALLS = (count_readings, first_reading)

# Values that are no pattern, with the index of InvalidPattern.
WRONG_PATTERNS = (
    ("s", 0), ("S*", 1), ("ST?s", 3), ("? T", 1), (" ?", 0), ("?\n", 1), ("??x??x", 2), ("S0", 1), ("\n", 0), ("~", 0),
    ("?" * 399 + "x", 399), ("x" * 400, 0), ("?" * 401, None), ("S" * 401, None), ("x" * 401, None),
    ("x" + "?" * 400, None), ("?" * 2000, None), (("?",), None), (["?"], None), (b"?", None), ({"?"}, None),
) + tuple((value, None) for value in ODD_VALUES + NUMBERS)


def readings(pattern):
    """All readings, the alphabetically first one first."""
    parts = ["ST" if letter == "?" else letter for letter in pattern]
    return ["".join(letters) for letters in itertools.product(*parts)]


def patterns(length):
    return ["".join(letters) for letters in itertools.product("ST?", repeat=length)]


def drawn_word(length):
    return "".join(RANDOM.choice("ST") for _ in range(length))


def hidden(word, many):
    """The word with so many letters that cannot be read."""
    letters = list(word)
    for at in RANDOM.sample(range(len(word)), many):
        letters[at] = "?"
    return "".join(letters)


class Readings(PromiseCase):
    def check_pattern(self, row, pattern, others):
        """Against all readings, for each of these rows behind them."""
        found = {}
        for word in readings(pattern):
            found.setdefault(walk_word(row, word), []).append(word)
        for other in others:
            words = found.get(other, [])
            self.assert_same(count_readings(row, pattern, other), len(words))
            self.assert_same(first_reading(row, pattern, other), words[0] if words else None)

    def test_known_patterns(self):
        row = (2, 4, 1, 3)
        self.assert_same(count_readings(row, "??STS", (3, 2, 4, 1)), 4)
        self.assert_same(count_readings(row, "T", (4, 2, 3, 1)), 0)
        self.assert_same(first_reading(row, "?T??", (3, 2, 4, 1)), None)
        self.assert_same(first_reading(row, "?", (4, 2, 3, 1)), "S")
        self.assert_same(first_reading(row, "??STS", (3, 2, 4, 1)), "SSSTS")
        self.assert_same(first_reading(row, "T?STS", (3, 2, 4, 1)), "TSSTS")

    def test_all_patterns_of_few_letters(self):
        for size in range(1, 5):
            for length in range(5):
                for pattern in patterns(length):
                    for row in all_rows(size)[::3]:
                        self.check_pattern(row, pattern, all_rows(size))

    def test_five_people(self):
        rows = all_rows(5)
        for row in rows[::17]:
            for length in range(8):
                for _ in range(3):
                    self.check_pattern(row, "".join(RANDOM.choice("ST??") for _ in range(length)), rows)

    def test_the_empty_pattern(self):
        for row in rows_of_all_sizes():
            self.assert_same(count_readings(row, "", row), 1)
            self.assert_same(first_reading(row, "", row), "")
            other = row[1:] + row[:1]
            if other != row:
                self.assert_same(count_readings(row, "", other), 0)
                self.assert_same(first_reading(row, "", other), None)

    def test_one_person(self):
        for pattern in ("", "S", "?", "T?S??", "?" * 400):
            self.assert_same(count_readings((7,), pattern, (7,)), 2 ** pattern.count("?"))
            self.assert_same(first_reading((7,), pattern, (7,)), pattern.replace("?", "S"))

    def test_long_rows_and_few_letters(self):
        """Fewer letters than people less one: only one reading can lead there."""
        for row in LONG_ROWS:
            for length in range(11):
                word = drawn_word(length)
                other = walk_word(row, word)
                for many in range(length + 1):
                    pattern = hidden(word, many)
                    self.assert_same(count_readings(row, pattern, other), 1)
                    self.assert_same(first_reading(row, pattern, other), word)
                if length:
                    at = RANDOM.randrange(length)
                    wrong = word[:at] + ("S" if word[at] == "T" else "T") + word[at + 1:]
                    for pattern in (wrong, wrong[:at + 1] + "?" * (length - at - 1), "?" * at + wrong[at:]):
                        self.assert_same(count_readings(row, pattern, other), 0)
                        self.assert_same(first_reading(row, pattern, other), None)

    def test_long_rows_and_many_letters(self):
        for row in LONG_ROWS:
            for length in (11, 12, 13, 40, 399, 400):
                word = drawn_word(length)
                other = walk_word(row, word)
                for many in (0, 1, length // 2, length):
                    pattern = hidden(word, many)
                    free = pattern[:length - 11]
                    self.assert_same(count_readings(row, pattern, other), 2 ** free.count("?"))
                    self.assert_same(first_reading(row, pattern, other), free.replace("?", "S") + word[length - 11:])

    def test_twelve_people_against_all_readings(self):
        for row in LONG_ROWS[:3]:
            for length in (9, 10, 11, 12, 14):
                word = drawn_word(length)
                pattern = hidden(word, 7)
                others = [walk_word(row, drawn_word(length)) for _ in range(5)]
                self.check_pattern(row, pattern, others + [walk_word(row, word), row, row[::-1]])

    def test_rows_that_no_reading_leads_to(self):
        for length in (1, 2, 11, 12, 400):
            for other in LONG_ROWS[2:]:
                row = tuple(sorted(other))
                if other[-1] not in (row[0], row[-1]):
                    self.assert_same(count_readings(row, "?" * length, other), 0)
                    self.assert_same(first_reading(row, "?" * length, other), None)
        # The last people may be those of a final row, but not those before them.
        row = (1, 2, 3, 4, 5)
        self.assert_same(count_readings(row, "????", (1, 3, 2, 4, 5)), 0)
        self.assert_same(count_readings(row, "?", (2, 1, 3, 4, 5)), 0)
        self.assert_same(first_reading(row, "?", (2, 1, 3, 4, 5)), None)

    def test_by_name(self):
        row, other = (2, 4, 1, 3), (3, 2, 4, 1)
        self.assert_same(count_readings(row=row, pattern="??STS", other=other), 4)
        self.assert_same(count_readings(other=other, pattern="??STS", row=row), 4)
        self.assert_same(count_readings(row, "??STS", other=other), 4)
        self.assert_same(first_reading(row=row, pattern="??STS", other=other), "SSSTS")
        self.assert_same(first_reading(other=other, pattern="??STS", row=row), "SSSTS")


class Errors(PromiseCase):
    def test_rows(self):
        for call in CALLS:
            for row, index in WRONG_ROWS:
                self.assert_error(InvalidRow, "index", index, call, row, "?", (2, 4))
                self.assert_error(InvalidRow, "index", index, call, (2, 4), "?", row)

    def test_patterns(self):
        for call in CALLS:
            for pattern, index in WRONG_PATTERNS:
                self.assert_error(InvalidPattern, "index", index, call, (2, 4), pattern, (4, 2))
                self.assert_error(InvalidPattern, "index", index, call, (7,), pattern, (7,))

    def test_order(self):
        for call in CALLS:
            for pattern, index in (("S*", 1), ("?" * 401, None), (None, None), (Odd(), None), (Agreeable(), None)):
                self.assert_order(
                    call,
                    ("row", (2, 4), (2, True), InvalidRow, "index", 1),
                    ("pattern", "?", pattern, InvalidPattern, "index", index),
                    ("other", (4, 2), (4, 2, 4), InvalidRow, "index", 2),
                )

    def test_other_people_come_last(self):
        for call in CALLS:
            for row, other in (((1, 2), (1, 3)), ((1, 2), (1, 2, 3)), ((1,), (2,)), ((1, 2, 3), (2, 1))):
                for pattern in ("", "?", "S", "?" * 400):
                    self.assert_plain_error(OtherPersons, call, row, pattern, other)
                    self.assert_plain_error(OtherPersons, call, other=other, pattern=pattern, row=row)
                self.assert_error(InvalidPattern, "index", 0, call, row, "x", other)
            self.assert_error(InvalidRow, "index", 1, call, (1, 1), "?", (3, 4))
            self.assert_error(InvalidRow, "index", 0, call, (1, 2), "?", (True, 4))


class Arguments(PromiseCase):
    def test_equal_calls_return_equal_results(self):
        for row in rows_of_all_sizes():
            before = list(row)
            other = walk_word(row, "STS")
            for call in CALLS:
                self.assert_same(call(row, "?T?", other), call(tuple(before), "".join(["?", "T", "?"]), other))
            self.assertEqual(list(row), before)


if __name__ == "__main__":
    unittest.main()
