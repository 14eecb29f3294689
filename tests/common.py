"""What several test files share."""

import itertools
import unittest


class Odd:
    """A value of no kind that the program knows; it must not even be compared."""

    def __eq__(self, other):
        raise AssertionError("compared with a value that is not of the right kind")

    __hash__ = None


class Agreeable:
    """A value that claims to be equal to everything."""

    def __eq__(self, other):
        return True

    __hash__ = None


def nested(depth):
    value = ()
    for _ in range(depth):
        value = (value,)
    return value


# None of these is an integer, a non-empty tuple of heights, or a string.
ODD_VALUES = (
    None, True, False, [], [1], [170, 180], {}, {1: 2}, {170, 180}, frozenset((1, 2)), b"", b"S", b"ST",
    bytearray(b"T"), range(1, 4), object(), Odd(), Agreeable(), len, int, lambda row: row, ValueError("S"),
    (), ((),), (None,), nested(19), (True,), ("S",), ([],),
)

TEXTS = ("", "S", "T", "t", "ST", "170", "(1, 2)", "\n", "~")

NUMBERS = (0, 1, -1, 12, 13, 999, 1000, -(10 ** 59), 10 ** 60 - 1)


def all_rows(size):
    return list(itertools.permutations(range(1, size + 1)))


def all_words(length):
    return ["".join(letters) for letters in itertools.product("ST", repeat=length)]


def words_up_to(length):
    return [word for size in range(length + 1) for word in all_words(size)]


LONG_ROWS = (
    tuple(range(1, 13)),
    tuple(range(999, 987, -1)),
    (500, 1, 999, 2, 998, 3, 997, 4, 996, 5, 995, 6),
    (170, 165, 180, 155, 190, 172, 171, 999, 1, 160, 181, 169),
    tuple(7 * number % 13 for number in range(1, 13)),
    tuple(5 * number % 13 for number in range(1, 13)),
)


class PromiseCase(unittest.TestCase):
    def assert_error(self, wanted, attribute, value, call, *values, **named):
        """The call raises an error of just this class, with just this attribute and this value."""
        with self.assertRaises(wanted) as caught:
            call(*values, **named)
        self.assertIs(type(caught.exception), wanted)
        self.assertEqual(list(vars(caught.exception)), [attribute])
        found = getattr(caught.exception, attribute)
        # Identity first: some values refuse to be compared, and True must not pass for 1.
        if found is not value:
            self.assertIs(type(found), type(value))
            self.assertEqual(found, value)

    def assert_same(self, found, wanted):
        """Equal, and of the same kinds throughout: 1 does not pass for True."""
        self.assertEqual(repr(found), repr(wanted))
        self.assertEqual(found, wanted)
