"""Final rows: what enough passes leave, whatever the row was before."""

from lastpasses.errors import NotFinal, WordTooShort
from lastpasses.passes import check_word, kind_of_last
from lastpasses.rows import check_heights, check_number, check_row, check_size


def kinds_behind_front(row):
    """Return for each index from 1 on the kind of the person there among the people up to there."""
    return [kind_of_last(row[:index + 1]) for index in range(1, len(row))]


def is_final(row):
    """Return True if the row is final."""
    check_row(row)
    return None not in kinds_behind_front(row)


def final_row(heights, word):
    """Return the row into which the word turns every row of these heights."""
    check_heights(heights)
    check_word(word)
    if len(word) < len(heights) - 1:
        raise WordTooShort(len(word))
    remaining = list(heights)
    placed = []
    for kind in reversed(word):
        # Passes before those that settle the row leave no trace.
        if len(remaining) == 1:
            break
        placed.append(remaining.pop(-1 if kind == "T" else 0))
    return tuple(remaining + placed[::-1])


def final_word(row):
    """Return the word with one letter fewer than there are people that turns their rows into this row."""
    check_row(row)
    kinds = kinds_behind_front(row)
    for index in range(len(row) - 1, 0, -1):
        if kinds[index - 1] is None:
            raise NotFinal(index)
    return "".join(kinds)


def choices(many, chosen):
    """Return in how many ways so many of the letters of a word can be chosen."""
    ways = 1
    for taken in range(chosen):
        ways = ways * (many - taken) // (taken + 1)
    return ways


def place_count(size, rank, index):
    """Return the number of final rows in which the person of this rank stands at this index."""
    if index == 0:
        return choices(size - 1, rank - 1)
    # The letters behind this place put all shorter people there, or all taller ones; the letters before it are free.
    behind = size - 1 - index
    return (choices(behind, rank - 1) + choices(behind, size - rank)) << (index - 1)


def place_counts(size, rank):
    """Return for each index the number of final rows in which the person of this rank stands there."""
    check_size(size)
    check_number(rank, 1, size)
    return tuple([place_count(size, rank, index) for index in range(size)])
