"""Desks with short seats and tall seats, and words as desks."""

from lastpasses.errors import TooManySeats
from lastpasses.limits import MOST_PEOPLE
from lastpasses.passes import check_word
from lastpasses.rows import check_number, check_row, check_size


def check_desk(row, shorts, talls):
    """Raise the error of the first value that is wrong for a desk."""
    check_row(row)
    check_number(shorts, 0, MOST_PEOPLE)
    check_number(talls, 0, MOST_PEOPLE)
    if shorts + talls > len(row):
        raise TooManySeats(shorts + talls)


def last_to_leave(people, shorts):
    """Return the people of an ascending list in the order in which they leave after all have come."""
    return people[:shorts][::-1] + people[shorts:]


def pass_desk(row, shorts, talls):
    """Return the list of the departures, for valid values."""
    left = []
    at_desk = []
    for index, person in enumerate(row):
        at_desk = sorted(at_desk + [person])
        if len(at_desk) > shorts + talls:
            left.append((index + 1, at_desk.pop(shorts)))
    return left + [(len(row), person) for person in last_to_leave(at_desk, shorts)]


def desk(row, shorts, talls):
    """Return the row after a desk with so many short and tall seats."""
    check_desk(row, shorts, talls)
    return tuple([person for arrivals, person in pass_desk(row, shorts, talls)])


def departures(row, shorts, talls):
    """Return a pair (arrivals, height) for each person, in the order in which they leave the desk."""
    check_desk(row, shorts, talls)
    return tuple(pass_desk(row, shorts, talls))


def run_length(word, start, letter, most):
    """Return how often the letter stands in a row from this index on, at most so often."""
    end = start
    while end < len(word) and end - start < most and word[end] == letter:
        end += 1
    return end - start


def split_word(word, size):
    """Return the fewest desks of at most so many seats whose passes are the word."""
    check_word(word)
    check_size(size)
    desks = []
    start = 0
    while start < len(word):
        shorts = run_length(word, start, "S", size)
        talls = run_length(word, start + shorts, "T", size - shorts)
        desks.append((shorts, talls))
        start += shorts + talls
    return tuple(desks)
