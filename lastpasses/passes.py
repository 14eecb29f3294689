"""Passes of a row at the chair, and words of passes."""

from lastpasses.errors import InvalidKind, InvalidWord
from lastpasses.limits import MOST_LETTERS
from lastpasses.rows import check_row

KINDS = ("S", "T")


def is_kind(value):
    """Return True if the value is the kind of a pass."""
    return isinstance(value, str) and value in KINDS


def check_kind(kind):
    """Raise InvalidKind if the value is not the kind of a pass."""
    if not is_kind(kind):
        raise InvalidKind(kind)


def may_be_word(value):
    """Return True if the value is a string with as many characters as a word may have."""
    return isinstance(value, str) and len(value) <= MOST_LETTERS


def wrong_letter(word):
    """Return the index of the first character that is no kind, None if there is none."""
    for index, letter in enumerate(word):
        if not is_kind(letter):
            return index
    return None


def is_word(value):
    """Return True if the value is a word."""
    return may_be_word(value) and wrong_letter(value) is None


def check_word(word):
    """Raise InvalidWord if the value is not a word."""
    if not may_be_word(word):
        raise InvalidWord(None)
    index = wrong_letter(word)
    if index is not None:
        raise InvalidWord(index)


def last_letters(word, most):
    """Return the last letters of the word, at most so many, for valid values."""
    return word[max(0, len(word) - most):]


def takes_chair(person, sitter, kind):
    """Return True if the person who comes takes the chair from the sitter."""
    if kind == "T":
        return person > sitter
    return person < sitter


def walk(people, kind):
    """Return the list of the people as they leave and the list of those who sit down, for valid values."""
    left = []
    seated = [people[0]]
    for person in people[1:]:
        if takes_chair(person, seated[-1], kind):
            left.append(seated[-1])
            seated.append(person)
        else:
            left.append(person)
    left.append(seated[-1])
    return left, seated


def single_pass(row, kind):
    """Return the row after one pass."""
    check_row(row)
    check_kind(kind)
    left, seated = walk(row, kind)
    return tuple(left)


def sitters(row, kind):
    """Return the people who sit down in one pass, in order."""
    check_row(row)
    check_kind(kind)
    left, seated = walk(row, kind)
    return tuple(seated)


def after(row, word):
    """Return the row after the passes of the word."""
    check_row(row)
    check_word(word)
    people = list(row)
    for kind in word:
        people, seated = walk(people, kind)
    return tuple(people)
