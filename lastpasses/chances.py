"""Random passes: exact chances of rows, and mean indexes of people."""

from lastpasses.errors import InvalidShare, UnknownHeight
from lastpasses.limits import MOST_TIMES
from lastpasses.passes import single_pass
from lastpasses.reach import word_of_length
from lastpasses.rows import check_number, check_row, check_same_people, is_height, is_whole

GREATEST_BOTTOM = 1000


def greatest_divisor(one, other):
    """Return the greatest common divisor of two integers that are at least 0 and not both 0."""
    while other > 0:
        one, other = other, one % other
    return one


def is_share(value):
    """Return True if the value is a share."""
    if not isinstance(value, tuple) or len(value) != 2:
        return False
    top, bottom = value
    if not is_whole(top) or not is_whole(bottom):
        return False
    return 0 < top < bottom <= GREATEST_BOTTOM and greatest_divisor(top, bottom) == 1


def check_random_passes(row, share, steps):
    """Raise the error of the first value that is wrong for a row and random passes."""
    check_row(row)
    if not is_share(share):
        raise InvalidShare(share)
    check_number(steps, 0, MOST_TIMES)


def telling_passes(row, steps):
    """Return how many of so many last passes leave a trace."""
    return min(steps, len(row) - 1)


def chance(row, share, steps, other):
    """Return the chance that so many random passes turn `row` into `other`, as a fraction."""
    check_random_passes(row, share, steps)
    check_same_people(row, other)
    word = word_of_length(row, other, telling_passes(row, steps))
    if word is None:
        return 0, 1
    talls, whole = share
    top = 1
    bottom = 1
    for kind in word:
        top *= talls if kind == "T" else whole - talls
        bottom *= whole
    # In lowest terms, since the share is.
    return top, bottom


def weighted_rows(row, share, passes):
    """Return a dict with the weight of each row after so many random passes, and the sum of the weights."""
    talls, whole = share
    weights = {row: 1}
    total = 1
    for number in range(passes):
        following = {}
        for people in weights:
            for kind, weight in (("S", whole - talls), ("T", talls)):
                reached = single_pass(people, kind)
                following[reached] = following.get(reached, 0) + weight * weights[people]
        weights = following
        total *= whole
    return weights, total


def mean_index(row, share, steps, height):
    """Return the mean index of the person of this height after so many random passes, as a fraction."""
    check_random_passes(row, share, steps)
    if not is_height(height) or height not in row:
        raise UnknownHeight(height)
    weights, total = weighted_rows(row, share, telling_passes(row, steps))
    top = sum([weights[people] * people.index(height) for people in weights])
    divisor = greatest_divisor(top, total)
    return top // divisor, total // divisor
