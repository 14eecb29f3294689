"""Passes of a row at the chair, words of passes, and records of observed passes."""

from lastpasses.errors import InvalidKind, InvalidWord
from lastpasses.limits import MOST_LETTERS
from lastpasses.rows import check_row, is_name_row

KINDS = ("S", "T")
MOST_RECORDS = 20


def is_kind(value):
    """Return True if the value is the kind of a pass."""
    return isinstance(value, str) and value in KINDS


def check_kind(kind):
    """Raise InvalidKind if the value is not the kind of a pass."""
    if not is_kind(kind):
        raise InvalidKind(kind)


def may_be_word(value):
    """Return True if the value is a string with as many characters as a word may have."""
    return isinstance(value, str) and len(value) <= MOST_LETTERS


def wrong_letter(word):
    """Return the index of the first character that is no kind, None if there is none."""
    for index, letter in enumerate(word):
        if not is_kind(letter):
            return index
    return None


def is_word(value):
    """Return True if the value is a word."""
    return may_be_word(value) and wrong_letter(value) is None


def check_word(word):
    """Raise InvalidWord if the value is not a word."""
    if not may_be_word(word):
        raise InvalidWord(None)
    index = wrong_letter(word)
    if index is not None:
        raise InvalidWord(index)


def last_letters(word, most):
    """Return the last letters of the word, at most so many, for valid values."""
    return word[max(0, len(word) - most):]


def takes_chair(person, sitter, kind):
    """Return True if the person who comes takes the chair from the sitter."""
    if kind == "T":
        return person > sitter
    return person < sitter


def walk(people, kind):
    """Return the list of the people as they leave and the list of those who sit down, for valid values."""
    left = []
    seated = [people[0]]
    for person in people[1:]:
        if takes_chair(person, seated[-1], kind):
            left.append(seated[-1])
            seated.append(person)
        else:
            left.append(person)
    left.append(seated[-1])
    return left, seated


def single_pass(row, kind):
    """Return the row after one pass."""
    check_row(row)
    check_kind(kind)
    left, seated = walk(row, kind)
    return tuple(left)


def sitters(row, kind):
    """Return the people who sit down in one pass, in order."""
    check_row(row)
    check_kind(kind)
    left, seated = walk(row, kind)
    return tuple(seated)


def after(row, word):
    """Return the row after the passes of the word."""
    check_row(row)
    check_word(word)
    people = list(row)
    for kind in word:
        people, seated = walk(people, kind)
    return tuple(people)


def kind_of_last(people):
    """Return T if the last of two or more people is the tallest, S if it is the shortest, None if neither."""
    if people[-1] == max(people):
        return "T"
    if people[-1] == min(people):
        return "S"
    return None


def possible_ends(other):
    """Return the words that may have placed the last people of the row, the shortest word first."""
    words = [""]
    for length in range(len(other), 1, -1):
        kind = kind_of_last(other[:length])
        if kind is None:
            break
        words.append(kind + words[-1])
    return words


def have_same_names(names, others):
    """Return True if both values are name rows, with the same names."""
    return is_name_row(names) and is_name_row(others) and sorted(names) == sorted(others)


def is_record(value):
    """Return True if the value is a record of an observed pass."""
    if not isinstance(value, tuple) or len(value) != 3:
        return False
    return is_kind(value[1]) and have_same_names(value[0], value[2])


def may_be_records(value):
    """Return True if the value is a tuple with as many elements as records may have."""
    return isinstance(value, tuple) and 1 <= len(value) <= MOST_RECORDS


def wrong_record(records, is_right):
    """Return the index of the first element that is not right or has other names than the first one, None if none is.

    An element that is right is a tuple that begins with a name row.
    """
    for index, record in enumerate(records):
        if not is_right(record) or sorted(record[0]) != sorted(records[0][0]):
            return index
    return None


def compared_names(record):
    """Return the list of the pairs (shorter, taller) that the pass of a record compares, None if it was no pass."""
    before, kind, behind = record
    sitter = before[0]
    pairs = []
    for person, leaver in zip(before[1:], behind):
        if leaver not in (person, sitter):
            return None
        stayer = sitter if leaver == person else person
        pairs.append((leaver, stayer) if kind == "T" else (stayer, leaver))
        sitter = stayer
    return pairs
