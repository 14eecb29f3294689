"""The errors of the package: each class has one base, and at most one attribute."""


class PassError(ValueError):
    """A value that was passed is not of the form that is asked for."""


class InvalidRow(PassError):
    """Not a row; the index of the first wrong element, or None for the whole value."""

    def __init__(self, index):
        self.index = index


class InvalidNumber(PassError):
    """Not an integer, or not one in the range that is asked for."""

    def __init__(self, number):
        self.number = number


class InvalidKind(PassError):
    """Not the kind of a pass."""

    def __init__(self, kind):
        self.kind = kind


class InvalidWord(PassError):
    """Not a word; the index of the first wrong character, or None for the whole value."""

    def __init__(self, index):
        self.index = index


class InvalidSize(PassError):
    """Not the size of a row."""

    def __init__(self, size):
        self.size = size


class InvalidProgram(PassError):
    """Not a program; the index of the first wrong step, or None for the whole value."""

    def __init__(self, index):
        self.index = index


class InvalidText(PassError):
    """Not the written form of a program."""

    def __init__(self, text):
        self.text = text


class InvalidHeights(PassError):
    """Not ascending heights; the index of the first wrong one, or None for the whole value."""

    def __init__(self, index):
        self.index = index


class InvalidWishes(PassError):
    """Not wishes; the index of the first wrong one, or None for the whole value."""

    def __init__(self, index):
        self.index = index


class InvalidRecord(PassError):
    """Not records; the index of the first wrong one, or None for the whole value."""

    def __init__(self, index):
        self.index = index


class InvalidPattern(PassError):
    """Not a pattern; the index of the first wrong character, or None for the whole value."""

    def __init__(self, index):
        self.index = index


class InvalidShare(PassError):
    """Not a share."""

    def __init__(self, share):
        self.share = share


class InvalidPeople(PassError):
    """Not the people of a hall; the index of the first wrong pair, or None for the whole value."""

    def __init__(self, index):
        self.index = index


class InvalidName(PassError):
    """Not a name."""

    def __init__(self, name):
        self.name = name


class InvalidHeight(PassError):
    """Not a height."""

    def __init__(self, height):
        self.height = height


class InvalidDeed(PassError):
    """Not deeds; the index of the first wrong one, or None for the whole value."""

    def __init__(self, index):
        self.index = index


class InvalidCommand(PassError):
    """Not a command."""

    def __init__(self, line):
        self.line = line


class FindError(LookupError):
    """The values have the right form, but what is asked for is not there."""


class NotFinal(FindError):
    """The row is not final; the greatest index of a person who prevents it."""

    def __init__(self, index):
        self.index = index


class OtherPersons(FindError):
    """The people are not the same."""


class UnknownName(FindError):
    """Nobody has this name."""

    def __init__(self, name):
        self.name = name


class UnknownHeight(FindError):
    """Nobody has this height."""

    def __init__(self, height):
        self.height = height


class NoOrder(FindError):
    """No order explains all records."""


class NameTaken(FindError):
    """Somebody has this name already."""

    def __init__(self, name):
        self.name = name


class HeightTaken(FindError):
    """Somebody has this height already."""

    def __init__(self, height):
        self.height = height


class NothingToUndo(FindError):
    """The log is empty."""


class LimitError(ArithmeticError):
    """The values have the right form, but a number is too great or too small."""


class TooManySeats(LimitError):
    """There are more seats than people."""

    def __init__(self, seats):
        self.seats = seats


class TooManyPeople(LimitError):
    """There are too many people."""

    def __init__(self, count):
        self.count = count


class WordTooShort(LimitError):
    """The word has too few letters."""

    def __init__(self, length):
        self.length = length


class TooManyDeeds(LimitError):
    """The log is full."""

    def __init__(self, count):
        self.count = count


class LastPerson(LimitError):
    """The only person cannot leave."""
