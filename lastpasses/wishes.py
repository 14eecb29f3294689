"""Words whose final rows have wished people at wished places."""

from lastpasses.errors import InvalidWishes
from lastpasses.rows import check_heights, is_height, is_whole_from


def is_wish(value, heights):
    """Return True if the value is a pair of one of the heights and an index of a row of them."""
    if not isinstance(value, tuple) or len(value) != 2:
        return False
    height, index = value
    return is_height(height) and height in heights and is_whole_from(index, 0, len(heights) - 1)


def wrong_wish(heights, wishes):
    """Return the index of the first element with which a tuple is no longer wishes, None if there is none."""
    wished = []
    for at, wish in enumerate(wishes):
        if not is_wish(wish, heights):
            return at
        height, index = wish
        if height in wished or (at > 0 and index <= wishes[at - 1][1]):
            return at
        wished.append(height)
    return None


def check_wishes(heights, wishes):
    """Raise the error of the first value that is wrong for heights and wishes."""
    check_heights(heights)
    if not isinstance(wishes, tuple):
        raise InvalidWishes(None)
    index = wrong_wish(heights, wishes)
    if index is not None:
        raise InvalidWishes(index)


def may_stand(person, index, wishes):
    """Return True if the person is not wished elsewhere and nobody else is wished at this index."""
    return all([(height == person) == (at == index) for height, at in wishes])


def next_steps(heights, wishes, index, shorts):
    """Return for each person who may be placed at this index the kind, and how many are placed as the shortest then.

    All people behind this index, which is not 0, are placed, so many of them as the shortest.
    """
    steps = []
    if may_stand(heights[shorts], index, wishes):
        steps.append(("S", shorts + 1))
    if may_stand(heights[shorts + index], index, wishes):
        steps.append(("T", shorts))
    return steps


def count_words(heights, wishes):
    """Return the number of words whose final row has each wished height at its index."""
    check_wishes(heights, wishes)
    # How many words lead to each number of people who are placed as the shortest.
    ways = {0: 1}
    for index in range(len(heights) - 1, 0, -1):
        following = {}
        for shorts in ways:
            for kind, reached in next_steps(heights, wishes, index, shorts):
                following[reached] = following.get(reached, 0) + ways[shorts]
        ways = following
    return sum([ways[shorts] for shorts in ways if may_stand(heights[shorts], 0, wishes)])


def first_word(heights, wishes):
    """Return the first of the words that `count_words` counts, None if there is none."""
    check_wishes(heights, wishes)
    # The first end of a word for each number of people who are placed as the shortest: whatever letters may stand
    # before one such end may stand before all of them.
    ends = {0: ""}
    for index in range(len(heights) - 1, 0, -1):
        following = {}
        for shorts in ends:
            for kind, reached in next_steps(heights, wishes, index, shorts):
                word = kind + ends[shorts]
                following[reached] = min(word, following.get(reached, word))
        ends = following
    return min([ends[shorts] for shorts in ends if may_stand(heights[shorts], 0, wishes)], default=None)
