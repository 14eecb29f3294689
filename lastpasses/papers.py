"""Papers: the true claim of two, with evidence that the checker accepts."""

from lastpasses.equality import difference
from lastpasses.observations import comparisons, find_order, known_shorter, order_and_rest
from lastpasses.reach import mismatches, word_to
from lastpasses.rows import next_steps
from lastpasses.wishes import first_word


def path_paper(row, other):
    """Return the claim that the other row comes from the row, or that it does not, with its paper."""
    word = word_to(row, other)
    if word is None:
        return ("no path", row, other), mismatches(row, other)
    return ("path", row, other), word


def word_paper(word, other, size):
    """Return the claim that the words have the same effect on rows of this size, or different ones, with its paper."""
    row = difference(word, other, size)
    if row is None:
        return ("same", size, word, other), None
    return ("different", size, word, other), row


def walk_round(below, name):
    """Return the steps of a cycle below a name, if the step (shorter, taller, index) below each name is given."""
    met = []
    while name not in met:
        met.append(name)
        name = below[name][0]
    # Each of these steps begins where the one before it has led to.
    return tuple([below[high] for high in met[met.index(name):]][::-1])


def find_cycle(records):
    """Return the steps of a cycle of comparisons, for records of passes that fit into no order."""
    order, rest = order_and_rest(known_shorter(records))
    # Each of these names was seen to be taller than another one of them, or it would follow in the order.
    below = {}
    for index, record in enumerate(records):
        for low, high in comparisons(record):
            if low in rest and high in rest:
                below[high] = (low, high, index)
    return walk_round(below, rest[0])


def no_order_paper(records):
    """Return the paper that no order explains the records, if this is so."""
    for index, record in enumerate(records):
        if comparisons(record) is None:
            return "impossible", index
    return "cycle", find_cycle(records)


def order_paper(records):
    """Return the claim that an order explains the records, or that none does, with its paper."""
    order = find_order(records)
    if order is None:
        return ("no order", records), no_order_paper(records)
    return ("order", records), order


def reached_counts(heights, wishes):
    """Return for each index from the last one to 0 how many people may have been placed as the shortest."""
    tuples = []
    counts = (0,)
    for index in range(len(heights) - 1, -1, -1):
        reached = [shorts for count in counts for kind, shorts in next_steps(heights, wishes, index, count)]
        counts = tuple(sorted(set(reached)))
        tuples.append(counts)
    return tuple(tuples)


def place_paper(heights, wishes):
    """Return the claim that a final row has the wishes, or that none has, with its paper."""
    word = first_word(heights, wishes)
    if word is None:
        return ("not placed", heights, wishes), reached_counts(heights, wishes)
    return ("placed", heights, wishes), word
