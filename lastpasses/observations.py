"""Observed passes of named people, and the orders of heights that explain them."""

from lastpasses.errors import InvalidRecord, NoOrder, UnknownName
from lastpasses.passes import compared_names, have_same_names, is_record, may_be_records, wrong_record
from lastpasses.rows import is_name


def check_all_right(records, is_right):
    """Raise InvalidRecord if the value is not a tuple of right elements, all with the same names."""
    if not may_be_records(records):
        raise InvalidRecord(None)
    index = wrong_record(records, is_right)
    if index is not None:
        raise InvalidRecord(index)


def check_records(records):
    """Raise InvalidRecord if the value is not records."""
    check_all_right(records, is_record)


def comparisons(record):
    """Return the ascending tuple of the pairs (shorter, taller) that the pass compares, None if it was no pass."""
    if not is_record(record):
        raise InvalidRecord(None)
    pairs = compared_names(record)
    return None if pairs is None else tuple(sorted(pairs))


def known_shorter(records):
    """Return for each name, in alphabetical order, a dict of the names that were seen to be shorter.

    None if one of the records was no pass.
    """
    shorter = {name: {} for name in sorted(records[0][0])}
    for record in records:
        pairs = compared_names(record)
        if pairs is None:
            return None
        for low, high in pairs:
            shorter[high][low] = True
    return shorter


def order_and_rest(shorter):
    """Return the alphabetically first order of as many names as possible, and the names that cannot follow it."""
    order = []
    rest = list(shorter)
    for place in range(len(shorter)):
        free = [name for name in rest if all([low in order for low in shorter[name]])]
        if not free:
            break
        order.append(free[0])
        rest.remove(free[0])
    return order, rest


def first_order(records):
    """Return the alphabetically first order that explains all records, None if there is none, for valid records."""
    shorter = known_shorter(records)
    if shorter is None:
        return None
    order, rest = order_and_rest(shorter)
    return None if rest else tuple(order)


def find_order(records):
    """Return the alphabetically first order that explains all records, None if there is none."""
    check_records(records)
    return first_order(records)


def count_extensions(needed):
    """Return in how many orders numbers from 0 can stand, if the bits of those before it are given for each."""
    # How many orders there are of the numbers of each set of bits, at the short end.
    ways = {0: 1}
    for place in range(len(needed)):
        following = {}
        for used in ways:
            for number, need in enumerate(needed):
                reached = used | (1 << number)
                if reached != used and need & used == need:
                    following[reached] = following.get(reached, 0) + ways[used]
        ways = following
    return sum([ways[used] for used in ways])


def count_orders(records):
    """Return the number of orders that explain all records."""
    check_records(records)
    shorter = known_shorter(records)
    if shorter is None:
        return 0
    names = list(shorter)
    return count_extensions([sum([1 << names.index(low) for low in shorter[name]]) for name in names])


def all_shorter(shorter, name):
    """Return the list of all names that are shorter than this one, seen directly or not."""
    found = []
    waiting = [name]
    while waiting:
        high = waiting.pop()
        lows = [low for low in shorter[high] if low not in found]
        found += lows
        waiting += lows
    return found


def is_shorter(records, one, other):
    """Return True if `one` is shorter than `other` in every order that explains all records."""
    check_records(records)
    for name in (one, other):
        if not is_name(name) or name not in records[0][0]:
            raise UnknownName(name)
    if first_order(records) is None:
        raise NoOrder()
    return one in all_shorter(known_shorter(records), other)


def is_pair(value):
    """Return True if the value is a pair of name rows with the same names."""
    return isinstance(value, tuple) and len(value) == 2 and have_same_names(value[0], value[1])


def possible_kinds(pairs):
    """Return the ascending tuple of the words whose letters, as the kinds of these passes, allow an order."""
    check_all_right(pairs, is_pair)
    # Passes of one kind all leave the same person last, those of the other kind another one. With all kinds changed,
    # the order the other way round explains the passes.
    held = pairs[0][1][-1]
    word = "".join(["S" if behind[-1] == held else "T" for before, behind in pairs])
    changed = "".join(["T" if kind == "S" else "S" for kind in word])
    records = [(before, kind, behind) for (before, behind), kind in zip(pairs, word)]
    return () if first_order(records) is None else (word, changed)
