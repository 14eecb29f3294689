"""Observed passes for the tests, values that are none, and searches through all orders."""

import itertools

from common import NUMBERS, ODD_VALUES, TEXTS, WRONG_KINDS, Agreeable, Odd, nested, walk_at_the_chair

# Not in alphabetical order; one is the beginning of another; of one letter and of six.
NAMES = ("cy", "ann", "bob", "a", "zzzzzz", "an", "dee", "eve", "q", "abcdef", "bobby", "ba")

THIRTEEN = tuple("abcdefghijklm")

FIRST = (("ann", "bob", "cy"), "T", ("ann", "cy", "bob"))
SECOND = (("cy", "ann", "bob"), "S", ("ann", "bob", "cy"))
THIRD = (("ann", "bob", "cy"), "S", ("ann", "cy", "bob"))

# No order explains it: bob has come when somebody must leave, cy has not.
IMPOSSIBLE = (("ann", "bob", "cy"), "T", ("cy", "bob", "ann"))


def observed(order, before, kind):
    """The record of a pass of this name row, if the people have this order from the shortest to the tallest."""
    heights = tuple(order.index(name) for name in before)
    return before, kind, tuple(order[height] for height in walk_at_the_chair(heights, kind)[0])


def explains(order, record):
    return observed(order, record[0], record[1]) == tuple(record)


def all_orders(records):
    """Every order that explains all records, the alphabetically first one first."""
    return [
        order for order in itertools.permutations(sorted(records[0][0]))
        if all(explains(order, record) for record in records)
    ]


def compared(order, record):
    """The pairs that a pass compares if this order explains the record, person by person."""
    before, kind, _ = record
    sitter, pairs = before[0], []
    for person in before[1:]:
        low, high = sorted((person, sitter), key=order.index)
        pairs.append((low, high))
        sitter = high if kind == "T" else low
    return tuple(sorted(pairs))


def drawn(source, names):
    return tuple(source.sample(names, len(names)))


def drawn_records(source, names, many):
    """Records of passes of one order."""
    order = drawn(source, names)
    return tuple(observed(order, drawn(source, names), source.choice("ST")) for _ in range(many))


def one_changed(source, records):
    """The same records, but one of them by another order, of the other kind, or with another row behind the pass."""
    names = records[0][0]
    at = source.randrange(len(records))
    before, kind, behind = records[at]
    changed = source.choice((
        observed(drawn(source, names), before, kind),
        (before, "S" if kind == "T" else "T", behind),
        (before, kind, drawn(source, names)),
    ))
    return records[:at] + (changed,) + records[at + 1:]


# Values that are no name.
WRONG_NAMES = (
    "", "A", "Ann", "aNn", "ann ", " ann", "a b", "ann\n", "\n", "a1", "1", "_", "a_b", "a-b", "abcdefg", "?", "~",
    "annannann", "a" * 2000, b"ann", ("ann",), ["ann"], {"ann": 1}, nested(17),
) + NUMBERS + tuple(value for value in ODD_VALUES)

# Values that are no name row.
WRONG_NAME_ROWS = (
    (), ("ann",), THIRTEEN, THIRTEEN * 100, ("ann", "ann"), ("ann", "bob", "ann"), ("ann", "bob", "cy", "bob"),
    ["ann", "bob"], "ann bob", "ab", {"ann", "bob"}, {"ann": "bob"}, range(2),
) + ODD_VALUES + NUMBERS + TEXTS + tuple(("ann", name) for name in WRONG_NAMES) + tuple(
    (name, "bob", "ann") for name in WRONG_NAMES
)

# Pairs of values that are not name rows with the same names.
WRONG_CHANGES = (
    (("ann", "bob"), ("ann", "cy")), (("ann", "bob"), ("ann", "bob", "cy")), (("ann", "bob", "cy"), ("bob", "ann")),
    (THIRTEEN, THIRTEEN), (("ann",), ("ann",)), ((), ()), (("ann", "ann"), ("ann", "ann")),
    (("ann", "bob"), ("ann", "ann")), (("ann", "ann"), ("ann", "bob")), (("Ann", "bob"), ("bob", "Ann")),
    (("abcdefg", "bob"), ("bob", "abcdefg")), (("", "bob"), ("bob", "")), (["ann", "bob"], ["bob", "ann"]),
    (("ann", 1), (1, "ann")), (("ann", True), (True, "ann")), (("ann", None), (None, "ann")),
) + tuple((row, ("bob", "ann")) for row in WRONG_NAME_ROWS) + tuple((("bob", "ann"), row) for row in WRONG_NAME_ROWS)

NO_TUPLES = (
    None, True, 0, 3, "", "ann", "T", [], {}, b"T", range(3), len, object(), Odd(), Agreeable(),
)

# Values that are no record.
WRONG_RECORDS = NO_TUPLES + (
    (), ("ann",), ("ann", "bob"), ("ann", "T", "bob"), FIRST[:2], FIRST[1:], FIRST + ("T",), FIRST + FIRST, (FIRST,),
    list(FIRST), (FIRST[0], FIRST[2], FIRST[1]), (FIRST[1], FIRST[0], FIRST[2]), (FIRST[0], FIRST[2]),
    (list(FIRST[0]), "T", FIRST[2]), (FIRST[0], "T", list(FIRST[2])), (FIRST[0], ("T",), FIRST[2]), nested(18),
    (Odd(), Odd(), Odd()), (Agreeable(), "T", Agreeable()),
) + tuple((before, "T", behind) for before, behind in WRONG_CHANGES) + tuple(
    (FIRST[0], kind, FIRST[2]) for kind in WRONG_KINDS
)

# Values that are no pair of a row before and a row behind a pass.
WRONG_PAIRS = NO_TUPLES + (
    (), ("ann",), ("ann", "bob"), FIRST, FIRST[:2], FIRST[1:], FIRST[:1], (FIRST[0], FIRST[2], FIRST[2]),
    ((FIRST[0], FIRST[2]),), [FIRST[0], FIRST[2]], (list(FIRST[0]), FIRST[2]), (FIRST[0], list(FIRST[2])), nested(18),
    (Odd(), Odd()), (Agreeable(), Agreeable()),
) + WRONG_CHANGES

OTHER_RECORD = (("ann", "bob", "dee"), "T", ("ann", "dee", "bob"))
SHORTER_RECORD = (("ann", "bob"), "T", ("ann", "bob"))
LONGER_RECORD = (("ann", "bob", "cy", "dee"), "T", ("ann", "bob", "cy", "dee"))


def without_kind(value):
    return value[0], value[2]


def wrong_tuples(right, others, wrong):
    """Values that are no tuple of such elements, with the index of InvalidRecord."""
    for value in NO_TUPLES:
        yield value, None
    yield [right], None
    yield [], None
    yield (), None
    yield {0: right}, None
    yield (right,) * 21, None
    yield (right,) * 200, None
    yield (None,) * 21, None
    yield (Odd(),) * 21, None
    for other in others:
        yield (right, other), 1
        yield (other, right), 1
        yield (right,) * 19 + (other,), 19
        yield (right, right, other, None), 2
    for value in wrong:
        yield (value,), 0
        yield (right, value), 1
        yield (right, right, value, value), 2
        yield (value, right, Odd()), 0
    yield (right, Odd(), others[0]), 1
    yield (right, others[0], Odd()), 1
    yield right, 0


def wrong_record_tuples():
    return wrong_tuples(FIRST, (OTHER_RECORD, SHORTER_RECORD, LONGER_RECORD), WRONG_RECORDS)


def wrong_pair_tuples():
    others = tuple(without_kind(record) for record in (OTHER_RECORD, SHORTER_RECORD, LONGER_RECORD))
    return wrong_tuples(without_kind(FIRST), others, WRONG_PAIRS)
