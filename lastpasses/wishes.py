"""Words whose final rows have wished people at wished places."""

from lastpasses.errors import InvalidWishes
from lastpasses.rows import check_heights, may_stand, next_steps, wrong_wish


def check_wishes(heights, wishes):
    """Raise the error of the first value that is wrong for heights and wishes."""
    check_heights(heights)
    if not isinstance(wishes, tuple):
        raise InvalidWishes(None)
    index = wrong_wish(heights, wishes)
    if index is not None:
        raise InvalidWishes(index)


def count_words(heights, wishes):
    """Return the number of words whose final row has each wished height at its index."""
    check_wishes(heights, wishes)
    # How many words lead to each number of people who are placed as the shortest.
    ways = {0: 1}
    for index in range(len(heights) - 1, 0, -1):
        following = {}
        for shorts in ways:
            for kind, reached in next_steps(heights, wishes, index, shorts):
                following[reached] = following.get(reached, 0) + ways[shorts]
        ways = following
    return sum([ways[shorts] for shorts in ways if may_stand(heights[shorts], 0, wishes)])


def first_word(heights, wishes):
    """Return the first of the words that `count_words` counts, None if there is none."""
    check_wishes(heights, wishes)
    # The first end of a word for each number of people who are placed as the shortest: whatever letters may stand
    # before one such end may stand before all of them.
    ends = {0: ""}
    for index in range(len(heights) - 1, 0, -1):
        following = {}
        for shorts in ends:
            for kind, reached in next_steps(heights, wishes, index, shorts):
                word = kind + ends[shorts]
                following[reached] = min(word, following.get(reached, word))
        ends = following
    return min([ends[shorts] for shorts in ends if may_stand(heights[shorts], 0, wishes)], default=None)
