"""Values with one part changed, however deep it lies."""

from common import Agreeable, Odd

STRANGE = (None, True, False, (), [], {}, "", "S", "x", b"S", -1, 0, 1, 999, 1000, 10 ** 59, Odd(), Agreeable())


def other_values(value):
    """Values that may stand in place of a part."""
    yield from STRANGE
    if isinstance(value, tuple):
        yield list(value)
        yield (value,)
        yield value + value
        yield value[::-1]
        for at, part in enumerate(value):
            yield value[:at] + value[at + 1:]
            yield value[:at] + (part,) + value[at:]
            yield value[:at] + value[at + 1:at + 2] + (part,) + value[at + 2:]
            for further in (None, 0, (), "S"):
                yield value[:at] + (further,) + value[at:]
        for further in (None, 0, 1, (), "S", Odd()):
            yield value + (further,)
    elif isinstance(value, str):
        yield value + "S"
        yield value + "T"
        yield "S" + value
        yield value[1:]
        yield value[:-1]
        yield value[::-1]
        yield value.upper()
        yield value.lower()
        yield value + " "
        yield value + "\n"
        yield (value,)
        yield list(value)
        yield value.encode()
    elif isinstance(value, int):
        for by in (-12, -4, -3, -2, -1, 1, 2, 3, 12):
            yield value + by
        yield -value
        yield str(value)
        yield (value,)
        yield bool(value)


def changed(value):
    """The value with one part of it changed: the whole value, an element, an element of an element, and so on."""
    yield from other_values(value)
    if isinstance(value, tuple):
        for at, part in enumerate(value):
            for other in changed(part):
                yield value[:at] + (other,) + value[at + 1:]
