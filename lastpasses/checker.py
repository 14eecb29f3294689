"""The checker of papers: evidence for claims, whoever wrote it."""

from lastpasses.limits import MOST_PEOPLE
from lastpasses.passes import (
    after, compared_names, have_same_names, is_record, is_word, last_letters, may_be_records, possible_ends,
    single_pass, wrong_record,
)
from lastpasses.rows import is_heights, is_name, is_row, is_whole_from, next_steps, wrong_wish


def are_rows_of_the_same_people(parts):
    """Return True if the parts of a claim are two rows of the same people."""
    if len(parts) != 2 or not is_row(parts[0]) or not is_row(parts[1]):
        return False
    return sorted(parts[0]) == sorted(parts[1])


def proves_path(parts, paper):
    """Return True if the paper is a word that turns the first row into the second one."""
    return are_rows_of_the_same_people(parts) and is_word(paper) and after(parts[0], paper) == parts[1]


def is_mismatch(value, row, other, count, word):
    """Return True if the value is a pair of this count and an index at which `other` and the people kept differ."""
    if not isinstance(value, tuple) or len(value) != 2 or not is_whole_from(value[0], count, count):
        return False
    index = value[1]
    return is_whole_from(index, 0, len(row) - count - 1) and after(row, word)[index] != other[index]


def proves_no_path(parts, paper):
    """Return True if the paper has a mismatch for each number of last passes that may have led to the second row."""
    if not are_rows_of_the_same_people(parts) or not isinstance(paper, tuple):
        return False
    row, other = parts
    words = possible_ends(other)
    if len(paper) != len(words):
        return False
    return all([is_mismatch(paper[count], row, other, count, word) for count, word in enumerate(words)])


def are_size_and_words(parts):
    """Return True if the parts of a claim are the size of a row and two words."""
    return len(parts) == 3 and is_whole_from(parts[0], 1, MOST_PEOPLE) and is_word(parts[1]) and is_word(parts[2])


def proves_same(parts, paper):
    """Return True if the words have equal effects; the paper is None."""
    if paper is not None or not are_size_and_words(parts):
        return False
    size, word, other = parts
    return last_letters(word, size - 1) == last_letters(other, size - 1)


def proves_different(parts, paper):
    """Return True if the paper is a row of this size on which the words have different effects."""
    if not are_size_and_words(parts) or not is_row(paper):
        return False
    size, word, other = parts
    return len(paper) == size and after(paper, word) != after(paper, other)


def are_records(parts):
    """Return True if the parts of a claim are just records."""
    return len(parts) == 1 and may_be_records(parts[0]) and wrong_record(parts[0], is_record) is None


def explains(order, record):
    """Return True if the order explains the record, for valid values."""
    before, kind, behind = record
    row = tuple([1 + order.index(name) for name in before])
    return single_pass(row, kind) == tuple([1 + order.index(name) for name in behind])


def proves_order(parts, paper):
    """Return True if the paper is an order that explains all records."""
    if not are_records(parts) or not have_same_names(paper, parts[0][0][0]):
        return False
    return all([explains(paper, record) for record in parts[0]])


def is_comparison(step, compared):
    """Return True if the step is a triple of two names and the index of a list of pairs that contains this pair."""
    if not isinstance(step, tuple) or len(step) != 3 or not is_name(step[0]) or not is_name(step[1]):
        return False
    if not is_whole_from(step[2], 0, len(compared) - 1):
        return False
    pairs = compared[step[2]]
    return pairs is not None and step[:2] in pairs


def is_cycle(records, steps):
    """Return True if the steps are comparisons of the records that lead back to the first name."""
    if not isinstance(steps, tuple) or not steps:
        return False
    compared = [compared_names(record) for record in records]
    if not all([is_comparison(step, compared) for step in steps]):
        return False
    # The step before the first one is the last one.
    return all([step[0] == steps[at - 1][1] for at, step in enumerate(steps)])


def proves_no_order(parts, paper):
    """Return True if the paper names an impossible record or a cycle of comparisons."""
    if not are_records(parts) or not isinstance(paper, tuple) or len(paper) != 2 or not isinstance(paper[0], str):
        return False
    records = parts[0]
    if paper[0] == "impossible":
        return is_whole_from(paper[1], 0, len(records) - 1) and compared_names(records[paper[1]]) is None
    return paper[0] == "cycle" and is_cycle(records, paper[1])


def are_heights_and_wishes(parts):
    """Return True if the parts of a claim are heights and wishes for them."""
    if len(parts) != 2 or not is_heights(parts[0]) or not isinstance(parts[1], tuple):
        return False
    return wrong_wish(parts[0], parts[1]) is None


def proves_placed(parts, paper):
    """Return True if the paper is a word, one letter shorter than the row, whose final row has the wishes."""
    if not are_heights_and_wishes(parts) or not is_word(paper):
        return False
    heights, wishes = parts
    if len(paper) != len(heights) - 1:
        return False
    row = after(heights, paper)
    return all([row[index] == height for height, index in wishes])


def are_counts(value, greatest):
    """Return True if the value is an ascending tuple of integers from 0 to the greatest."""
    if not isinstance(value, tuple) or not all([is_whole_from(count, 0, greatest) for count in value]):
        return False
    return all([value[at - 1] < value[at] for at in range(1, len(value))])


def proves_not_placed(parts, paper):
    """Return True if the paper has all counts that are reached at each index, and none at the last one."""
    if not are_heights_and_wishes(parts) or not isinstance(paper, tuple):
        return False
    heights, wishes = parts
    if len(paper) != len(heights):
        return False
    reached_from = (0,)
    for placed, counts in enumerate(paper, start=1):
        if not are_counts(counts, placed):
            return False
        for shorts in reached_from:
            for kind, reached in next_steps(heights, wishes, len(heights) - placed, shorts):
                if reached not in counts:
                    return False
        reached_from = counts
    return reached_from == ()


PROOFS = {
    "path": proves_path,
    "no path": proves_no_path,
    "same": proves_same,
    "different": proves_different,
    "order": proves_order,
    "no order": proves_no_order,
    "placed": proves_placed,
    "not placed": proves_not_placed,
}


def check(claim, paper):
    """Return True if the paper is evidence for the claim."""
    if not isinstance(claim, tuple) or not claim or not isinstance(claim[0], str):
        return False
    if claim[0] not in PROOFS:
        return False
    proves = PROOFS[claim[0]]
    return proves(claim[1:], paper)
