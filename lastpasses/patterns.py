"""Partly unreadable passes, and how they can be read."""

from lastpasses.errors import InvalidPattern
from lastpasses.limits import MOST_LETTERS
from lastpasses.passes import KINDS, last_letters
from lastpasses.reach import word_of_length
from lastpasses.rows import check_row, check_same_people

UNREADABLE = "?"


def check_pattern(pattern):
    """Raise InvalidPattern if the value is not a pattern."""
    if not isinstance(pattern, str) or len(pattern) > MOST_LETTERS:
        raise InvalidPattern(None)
    for index, letter in enumerate(pattern):
        if letter != UNREADABLE and letter not in KINDS:
            raise InvalidPattern(index)


def check_reading(row, pattern, other):
    """Raise the error of the first value that is wrong for rows and a pattern."""
    check_row(row)
    check_pattern(pattern)
    check_same_people(row, other)


def split_reading(row, pattern, other):
    """Return the free beginning of the pattern and the word that its end must be, None for a word that cannot be.

    The passes of the beginning leave no trace.
    """
    end = last_letters(pattern, len(row) - 1)
    word = word_of_length(row, other, len(end))
    if word is not None and any([letter not in (UNREADABLE, kind) for letter, kind in zip(end, word)]):
        word = None
    return pattern[:len(pattern) - len(end)], word


def count_readings(row, pattern, other):
    """Return the number of readings of the pattern that turn `row` into `other`."""
    check_reading(row, pattern, other)
    beginning, word = split_reading(row, pattern, other)
    return 0 if word is None else 1 << beginning.count(UNREADABLE)


def first_reading(row, pattern, other):
    """Return the alphabetically first of the readings that turn `row` into `other`, None if there is none."""
    check_reading(row, pattern, other)
    beginning, word = split_reading(row, pattern, other)
    return None if word is None else beginning.replace(UNREADABLE, KINDS[0]) + word
