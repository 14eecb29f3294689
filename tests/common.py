"""What several test files share."""

import itertools
import unittest


class Odd:
    """A value of no kind that the program knows; it must not even be compared."""

    def __eq__(self, other):
        raise AssertionError("compared with a value that is not of the right kind")

    __hash__ = None


class Agreeable:
    """A value that claims to be equal to everything."""

    def __eq__(self, other):
        return True

    __hash__ = None


def nested(depth):
    value = ()
    for _ in range(depth):
        value = (value,)
    return value


# None of these is an integer, a non-empty tuple of heights, or a string.
ODD_VALUES = (
    None, True, False, [], [1], [170, 180], {}, {1: 2}, {170, 180}, frozenset((1, 2)), b"", b"S", b"ST",
    bytearray(b"T"), range(1, 4), object(), Odd(), Agreeable(), len, int, lambda row: row, ValueError("S"),
    (), ((),), (None,), nested(19), (True,), ("S",), ([],),
)

TEXTS = ("", "S", "T", "t", "ST", "170", "(1, 2)", "\n", "~")

NUMBERS = (0, 1, -1, 12, 13, 999, 1000, -(10 ** 59), 10 ** 60 - 1)

WRONG_KINDS = ("t", "s", "", "ST", "TT", "S ", " T", "\n", "?") + NUMBERS + ODD_VALUES

# Values that are no word, with the index of InvalidWord.
WRONG_WORDS = (
    ("s", 0),
    ("STs", 2),
    ("S T", 1),
    (" ST", 0),
    ("ST\n", 2),
    ("?ST?", 0),
    ("ST0T1", 2),
    ("S" * 399 + "x", 399),
    ("x" * 400, 0),
    ("S" * 401, None),
    ("ST" * 201, None),
    ("x" * 401, None),
    ("?" + "S" * 400, None),
    ("S" * 2000, None),
) + tuple((value, None) for value in NUMBERS + ODD_VALUES + (["S"], ("S", "T")))

WRONG_ROWS = (
    ((), None), (tuple(range(1, 14)), None), ((0,) * 13, None), ([2, 4], None), ("24", None), (None, None),
    ((0,), 0), ((2, 1000), 1), ((2, 4, 2), 2), ((2, True), 1), ((2, Odd()), 1), ((2, 4, Agreeable()), 2),
)

# Values that are not ascending heights, with the index of InvalidHeights.
WRONG_HEIGHTS = (
    ((), None), (tuple(range(1, 14)), None), ((0,) * 13, None), ((Odd(),) * 13, None), (tuple(range(1, 2001)), None),
    ([1, 2, 3], None), ([], None), ("12", None), ("", None), (b"12", None), (None, None), (True, None), (1, None),
    ({1: 2}, None), ({1, 2}, None), (range(1, 4), None), (Odd(), None), (Agreeable(), None),
    ((0,), 0), ((1000,), 0), ((-1,), 0), ((10 ** 59,), 0), ((True,), 0), ((False, 1), 0), ((None,), 0), (("1",), 0),
    (((1, 2),), 0), ((Odd(),), 0), ((Agreeable(),), 0), (([],), 0),
    ((1, 1), 1), ((2, 1), 1), ((1, True), 1), ((1, 2, True), 2), ((1, 2, 1000), 2), ((1, 2, 3, 3), 3),
    ((1, 3, 2, 0), 2),
    ((1, 2, Odd(), 1), 2), ((1, 2, Agreeable()), 2), ((1, 2, "3"), 2), ((1, 2, None, 2), 2),
    ((1, 2, 3, 4, 5, 6, 7, 8, 9, 10, 11, 11), 11), ((12, 11, 10, 9, 8, 7, 6, 5, 4, 3, 2, 1), 1),
    ((1, 2, 3, 4, 5, 6, 7, 8, 9, 10, 11, 1000), 11),
)

# None of these is an integer from 0 to 12.
WRONG_SEATS = (-1, 13, 400, -(10 ** 59), 10 ** 60 - 1) + ODD_VALUES + TEXTS

WRONG_SIZES = (0, -1, 13, 400, 10 ** 59, -(10 ** 59)) + ODD_VALUES + TEXTS


def all_rows(size):
    return list(itertools.permutations(range(1, size + 1)))


def all_words(length):
    return ["".join(letters) for letters in itertools.product("ST", repeat=length)]


def words_up_to(length):
    return [word for size in range(length + 1) for word in all_words(size)]


LONG_ROWS = (
    tuple(range(1, 13)),
    tuple(range(999, 987, -1)),
    (500, 1, 999, 2, 998, 3, 997, 4, 996, 5, 995, 6),
    (170, 165, 180, 155, 190, 172, 171, 999, 1, 160, 181, 169),
    tuple(7 * number % 13 for number in range(1, 13)),
    tuple(5 * number % 13 for number in range(1, 13)),
)


def rows_of_all_sizes():
    """Ascending, descending and mixed rows of 1 to 12 people."""
    return [row[:size] for size in range(1, 13) for row in LONG_ROWS]


def walk_at_the_chair(row, kind):
    """One pass, person by person: who leaves, and who sits down."""
    coming = list(row)
    chair = None
    left = []
    seated = []
    while coming:
        person = coming.pop(0)
        if chair is None:
            chair = person
            seated.append(person)
        elif (kind == "T" and chair < person) or (kind == "S" and chair > person):
            left.append(chair)
            chair = person
            seated.append(person)
        else:
            left.append(person)
    left.append(chair)
    return tuple(left), tuple(seated)


def walk_word(row, word):
    for kind in word:
        row = walk_at_the_chair(row, kind)[0]
    return row


class PromiseCase(unittest.TestCase):
    def assert_error(self, wanted, attribute, value, call, *values, **named):
        """The call raises an error of just this class, with just this attribute and this value."""
        with self.assertRaises(wanted) as caught:
            call(*values, **named)
        self.assertIs(type(caught.exception), wanted)
        self.assertEqual(list(vars(caught.exception)), [attribute])
        found = getattr(caught.exception, attribute)
        # Identity first: some values refuse to be compared, and True must not pass for 1.
        if found is not value:
            self.assertIs(type(found), type(value))
            self.assertEqual(found, value)

    def assert_plain_error(self, wanted, call, *values, **named):
        """The call raises an error of just this class, which has no attribute."""
        with self.assertRaises(wanted) as caught:
            call(*values, **named)
        self.assertIs(type(caught.exception), wanted)
        self.assertEqual(vars(caught.exception), {})

    def assert_same(self, found, wanted):
        """Equal, and of the same kinds throughout: 1 does not pass for True."""
        self.assertEqual(repr(found), repr(wanted))
        self.assertEqual(found, wanted)

    def assert_order(self, call, *parts):
        """Of several wrong arguments, the first one decides.

        Each part is the name of a parameter, a valid value, a wrong value, the class of the error for it, and the
        name and the value of the attribute.
        """
        for wrong in itertools.product((False, True), repeat=len(parts)):
            if not any(wrong):
                continue
            values = {part[0]: part[2] if at_fault else part[1] for part, at_fault in zip(parts, wrong)}
            error, attribute, value = parts[wrong.index(True)][3:]
            with self.subTest(call=call.__name__, wrong=wrong):
                self.assert_error(error, attribute, value, call, *values.values())
                self.assert_error(error, attribute, value, call, **values)
                self.assert_error(error, attribute, value, call, **dict(reversed(values.items())))
