"""Rows of people: what rows, heights, wishes and names are, and what can be read from a row."""

from lastpasses.errors import InvalidHeights, InvalidNumber, InvalidRow, InvalidSize, OtherPersons
from lastpasses.limits import MOST_PEOPLE

GREATEST_HEIGHT = 999
LETTERS = "abcdefghijklmnopqrstuvwxyz"
LONGEST_NAME = 6


def is_whole(value):
    """Return True if the value is an integer other than True and False."""
    return isinstance(value, int) and not isinstance(value, bool)


def is_whole_from(value, least, greatest):
    """Return True if the value is an integer in this range, its ends included."""
    return is_whole(value) and least <= value <= greatest


def is_height(value):
    """Return True if the value is a height."""
    return is_whole_from(value, 1, GREATEST_HEIGHT)


def may_be_row(value):
    """Return True if the value is a tuple with as many elements as a row may have."""
    return isinstance(value, tuple) and 1 <= len(value) <= MOST_PEOPLE


def wrong_person(row):
    """Return the first index at which no height or an earlier height stands, None if there is none."""
    for index, person in enumerate(row):
        if not is_height(person) or person in row[:index]:
            return index
    return None


def is_row(value):
    """Return True if the value is a row."""
    return may_be_row(value) and wrong_person(value) is None


def check_row(row):
    """Raise InvalidRow if the value is not a row."""
    if not may_be_row(row):
        raise InvalidRow(None)
    index = wrong_person(row)
    if index is not None:
        raise InvalidRow(index)


def check_same_people(row, other):
    """Raise the error of the first value that is not a row, or OtherPersons if the rows have other people."""
    check_row(row)
    check_row(other)
    if sorted(row) != sorted(other):
        raise OtherPersons()


def wrong_height(heights):
    """Return the first index at which no height or none greater than the one before it stands, None if none does."""
    for index, height in enumerate(heights):
        if not is_height(height) or (index > 0 and height <= heights[index - 1]):
            return index
    return None


def is_heights(value):
    """Return True if the value is an ascending tuple of as many heights as a row may have."""
    return may_be_row(value) and wrong_height(value) is None


def check_heights(heights):
    """Raise InvalidHeights if the value is not an ascending tuple of as many heights as a row may have."""
    if not may_be_row(heights):
        raise InvalidHeights(None)
    index = wrong_height(heights)
    if index is not None:
        raise InvalidHeights(index)


def is_wish(value, heights):
    """Return True if the value is a pair of one of the heights and an index of a row of them."""
    if not isinstance(value, tuple) or len(value) != 2:
        return False
    height, index = value
    return is_height(height) and height in heights and is_whole_from(index, 0, len(heights) - 1)


def wrong_wish(heights, wishes):
    """Return the index of the first element with which a tuple is no longer wishes, None if there is none."""
    wished = []
    for at, wish in enumerate(wishes):
        if not is_wish(wish, heights):
            return at
        height, index = wish
        if height in wished or (at > 0 and index <= wishes[at - 1][1]):
            return at
        wished.append(height)
    return None


def may_stand(person, index, wishes):
    """Return True if the person is not wished elsewhere and nobody else is wished at this index."""
    return all([(height == person) == (at == index) for height, at in wishes])


def next_steps(heights, wishes, index, shorts):
    """Return for each person who may be placed at this index the kind, and how many are placed as the shortest then.

    All people behind this index are placed, so many of them as the shortest. At the index 0 there is only one person.
    """
    steps = []
    if may_stand(heights[shorts], index, wishes):
        steps.append(("S", shorts + 1))
    if may_stand(heights[shorts + index], index, wishes):
        steps.append(("T", shorts))
    return steps


def is_name(value):
    """Return True if the value is a name."""
    if not isinstance(value, str) or not 1 <= len(value) <= LONGEST_NAME:
        return False
    return all([letter in LETTERS for letter in value])


def is_name_row(value):
    """Return True if the value is a name row."""
    if not isinstance(value, tuple) or not 2 <= len(value) <= MOST_PEOPLE:
        return False
    # Only strings are compared with each other.
    return all([is_name(name) for name in value]) and len(set(value)) == len(value)


def check_size(size):
    """Raise InvalidSize if the value is not the size of a row."""
    if not is_whole_from(size, 1, MOST_PEOPLE):
        raise InvalidSize(size)


def check_number(number, least, greatest):
    """Raise InvalidNumber if the value is not an integer in this range, its ends included."""
    if not is_whole_from(number, least, greatest):
        raise InvalidNumber(number)


def ranks(row):
    """Return the ranks of the people, in the order of the row."""
    check_row(row)
    ascending = sorted(row)
    return tuple([1 + ascending.index(person) for person in row])


def signs(row, height):
    """Return a string with 1 for each person of at least this height and 0 for each other person."""
    check_row(row)
    if not is_whole(height):
        raise InvalidNumber(height)
    return "".join(["1" if person >= height else "0" for person in row])
