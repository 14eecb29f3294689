"""Which rows come from a row, by which word, and why others do not."""

from lastpasses.errors import InvalidNumber, TooManyPeople
from lastpasses.kept import kept
from lastpasses.limits import MOST_LETTERS, SMALL
from lastpasses.passes import KINDS, possible_ends, single_pass
from lastpasses.rows import check_row, check_same_people, is_whole_from


def check_reach(row, passes):
    """Raise the error of the first value that is wrong for `reachable`."""
    check_row(row)
    if len(row) > SMALL:
        raise TooManyPeople(len(row))
    if passes is not None and not is_whole_from(passes, 0, MOST_LETTERS):
        raise InvalidNumber(passes)


def reachable(row, *, passes=None):
    """Return the ascending tuple of the rows into which words of at most so many letters turn the row."""
    check_reach(row, passes)
    # Longer words than this have no other effects.
    most = len(row) - 1 if passes is None else min(passes, len(row) - 1)
    # A copy, since results are new tuples.
    newest = [tuple(list(row))]
    seen = {newest[0]: True}
    for number in range(most):
        following = []
        for people in newest:
            for kind in KINDS:
                result = single_pass(people, kind)
                if result not in seen:
                    seen[result] = True
                    following.append(result)
        newest = following
    return tuple(sorted(list(seen)))


def first_mismatch(row, other, word):
    """Return the first index at which `other` and the people whom the word keeps differ, None if there is none."""
    people = kept(row, word.count("S"), word.count("T"))
    for index, person in enumerate(people):
        if person != other[index]:
            return index
    return None


def word_to(row, other):
    """Return the shortest word that turns the row into the other one, None if there is none."""
    check_same_people(row, other)
    for word in possible_ends(other):
        if first_mismatch(row, other, word) is None:
            return word
    return None


def word_of_length(row, other, length):
    """Return the word of so many letters, fewer than there are people, that turns the row into the other one.

    There is at most one, since its last letter decides whether the tallest or the shortest stands last, and so on.
    None if there is none.
    """
    words = possible_ends(other)
    if length >= len(words) or first_mismatch(row, other, words[length]) is not None:
        return None
    return words[length]


def mismatches(row, other):
    """Return () if `other` comes from `row`, otherwise a pair (count, index) for each count of possible last passes."""
    check_same_people(row, other)
    pairs = []
    for count, word in enumerate(possible_ends(other)):
        index = first_mismatch(row, other, word)
        if index is None:
            return ()
        pairs.append((count, index))
    return tuple(pairs)
