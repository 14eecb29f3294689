"""Programs for the tests, values that are none, and walks through the passes of a program."""

from common import NUMBERS, ODD_VALUES, TEXTS, Agreeable, Odd

MANY = 10 ** 30

SHOWN = ("SST", ("desk", 1, 2), ("repeat", 1000, ("T", ("desk", 1, 0))))


def repeated(times, program, depth):
    """The program inside so many repeats, one in the other."""
    for _ in range(depth):
        program = (("repeat", times, program),)
    return program


# Few enough passes to go through them one by one.
SMALL_PROGRAMS = (
    (),
    ("S",),
    ("T", "S", "TTS"),
    ("S" * 400,),
    ("ST" * 200, "T"),
    (("desk", 0, 0),),
    (("desk", 0, 0), "S", ("desk", 0, 0)),
    (("desk", 2, 1),),
    (("desk", 0, 3), ("desk", 3, 0)),
    (("desk", 1, 0), "T", ("desk", 0, 1)),
    (("repeat", 1, ()),),
    (("repeat", 7, ()), "S", ("repeat", 3, (("repeat", 2, ()), ("desk", 0, 0)))),
    (("repeat", 1, ("S",)),),
    (("repeat", 3, ("ST",)), "S"),
    (("repeat", 5, ("T", ("desk", 1, 1))),),
    ("S", ("repeat", 4, ("TT", ("repeat", 3, ("S", ("desk", 2, 0))), "T")), ("desk", 1, 2)),
    repeated(3, ("SST",), 4),
    repeated(2, ("T", ("desk", 1, 1)), 4),
    (("repeat", 133, ("TSS",)), "T"),
    (("repeat", 134, ("TSS",)),),
    (("repeat", 400, ("T",)),),
    (("repeat", 401, ("S",)), ("repeat", 399, ("T",))),
    ("T" * 399, ("repeat", 20, ("SST", ("repeat", 19, ("TS",))))),
    SHOWN,
)

# Too many passes to go through them.
LARGE_PROGRAMS = (
    (("repeat", MANY, ("S",)),),
    ("T", ("repeat", MANY, ("SST",)), "S"),
    repeated(MANY, ("TTS",), 4),
    repeated(MANY, (), 4),
    ("SST", ("repeat", MANY, (("repeat", MANY, ()), ("desk", 0, 0))), "T"),
    (("repeat", MANY, ("S", ("repeat", MANY, ("T", ("repeat", MANY, ("SS", ("desk", 1, 2), "S")))), "TS")),),
    (("repeat", MANY, (("repeat", MANY - 1, (("repeat", 2, ("ST",)), "T")), "S", ("desk", 0, 0))), "TTTT"),
    ("S" * 400, ("repeat", MANY, ("ST" * 200, ("repeat", MANY, ("T" * 399,)), "S" * 7)), "T" * 11),
    (("repeat", MANY, ("S" * 400,) * 58), "T"),
)

# At the limits: 60 steps, five programs, desks of 12 seats, words of 400 letters, 1 and 10 ** 30 times.
LIMIT_PROGRAMS = (
    ("S",) * 60,
    ("S" * 400,) * 60,
    (("desk", 0, 0),) * 60,
    (("repeat", 1, ()),) * 60,
    (("repeat", 2, ("S",) * 59),),
    (("repeat", 2, ("S",) * 29), ("repeat", 2, ("T",) * 29)),
    (("repeat", 1, ("S",) * 28), "T", ("repeat", 2, ("T",) * 29)),
    repeated(1, ("S",) * 56, 4),
    repeated(1, (), 4),
    repeated(MANY, (), 4),
    (("desk", 12, 0),), (("desk", 0, 12),), (("desk", 5, 7),), (("desk", 6, 6),), (("desk", 1, 11),),
    (("repeat", 1, ("S",)),), (("repeat", MANY, ("S",)),),
    ("S" * 400,), ("T" * 400,),
)

PROGRAMS = SMALL_PROGRAMS + LARGE_PROGRAMS + LIMIT_PROGRAMS

HUGE = ("S",) * 2000

# Steps that are none, wherever they stand.
WRONG_STEPS = (
    "", "s", "ST ", " ", "\n", "STx", "S" * 401, "x" * 401, "desk", "repeat", "desk:1:2", "()", b"S",
    (), ("desk",), ("desk", 1), ("desk", 1, 2, 3), ("desk", 1, 1, ()), ("Desk", 1, 2), ("DESK", 1, 2), ("desk ", 1, 2),
    ("", 1, 2), ("S", 1, 2), (b"desk", 1, 2), (None, 1, 2), (("desk",), 1, 2), (1, 2, "desk"), ("desk", (1, 2)),
    ["desk", 1, 2], ("desk", [1], 2), {"desk": (1, 2)},
    ("desk", 13, 0), ("desk", 0, 13), ("desk", 12, 1), ("desk", 1, 12), ("desk", 7, 6), ("desk", 12, 12),
    ("desk", -1, 2), ("desk", 2, -1), ("desk", 13, -1), ("desk", -1, 13), ("desk", 10 ** 59, -(10 ** 59)),
    ("desk", True, 2), ("desk", 2, True), ("desk", False, 2), ("desk", 2, False), ("desk", None, 2), ("desk", 2, None),
    ("desk", "1", 2), ("desk", 1, "2"), ("desk", Odd(), 1), ("desk", 1, Odd()), ("desk", Agreeable(), Agreeable()),
    (Odd(), 1, 2), (Agreeable(), 1, 2), (Odd(), 1, ()),
    ("repeat",), ("repeat", 2), ("repeat", 2, (), ()), ("repeat", 2, ("S",), "S"), ("Repeat", 2, ()),
    ("REPEAT", 2, ()), (b"repeat", 2, ()), ["repeat", 2, ()], ("repeat", 0, ()), ("repeat", -1, ()),
    ("repeat", MANY + 1, ()), ("repeat", 10 ** 60 - 1, ("S",)), ("repeat", True, ()), ("repeat", False, ()),
    ("repeat", None, ()), ("repeat", "2", ()), ("repeat", (2,), ()), ("repeat", Odd(), ()), ("repeat", Agreeable(), ()),
    ("repeat", 2, []), ("repeat", 2, ["S"]), ("repeat", 2, "S"), ("repeat", 2, ""), ("repeat", 2, None),
    ("repeat", 2, 2), ("repeat", (), 2), ("repeat", 2, Odd()), ("repeat", 2, {}), ("repeat", 2, {"S"}),
    ("repeat", 2, ("s",)), ("repeat", 2, ("",)), ("repeat", 2, ("S", ["desk", 1, 2])), ("repeat", 2, ("desk", 1, 2)),
    ("repeat", 2, ("S", ("repeat", 0, ()))), ("repeat", 2, (("repeat", 2, (("desk", 12, 1),)),)),
    ("repeat", 2, (("repeat", True, ()),)), ("repeat", 2, ("S",) * 60), ("repeat", 2, HUGE),
    ("repeat", 2, (("repeat", 2, ("S",) * 59),)), repeated(1, (), 5)[0], repeated(2, ("S",), 5)[0],
    repeated(2, (), 6)[0], ("repeat", 1, (("repeat", 1, HUGE),) * 2000),
) + ODD_VALUES + NUMBERS

# Values that are no program, with the index of InvalidProgram.
WRONG_PROGRAMS = tuple(((step,), 0) for step in WRONG_STEPS) + (
    (("S", ("desk", 12, 1), "s"), 1),
    (("T", ("repeat", 0, ())), 1),
    (("S", "T", "ST", "STS", ("repeat", 2, ("T", "s")), None), 4),
    (("S",) * 61, 60),
    ((("desk", 0, 0),) * 61, 60),
    ((("desk", 1, 1),) * 60 + ("S",), 60),
    (("S",) * 60 + (("desk", 0, 0),), 60),
    ((("repeat", 1, ()),) * 61, 60),
    ((("repeat", 2, (("desk", 2, 1),) * 60),), 0),
    ((("repeat", 2, (("desk", 2, 1),) * 59), "T"), 1),
    (("S",) * 60 + ("s",), 60),
    (("S",) * 60 + (("repeat", 1, ()),), 60),
    (("S",) * 59 + ("s", "S"), 59),
    (HUGE, 60),
    (("S",) * 59 + (("repeat", 1, ("S",)),), 59),
    (("S",) * 30 + (("repeat", 2, ("S",) * 30),), 30),
    ((("repeat", 2, ("S",) * 59), "T"), 1),
    ((("repeat", 2, ("S",) * 59), "T", None), 1),
    ((("repeat", 2, ("S",) * 29), ("repeat", 2, ("T",) * 30)), 1),
    ((("repeat", 2, ("S",) * 29), "T", ("repeat", 2, ("T",) * 29)), 2),
    (repeated(1, ("S",) * 57, 4), 0),
    (("S",) + repeated(1, ("S",) * 56, 4), 1),
    (("S", "T") + repeated(1, (), 5), 2),
    (("S", "T") + repeated(1, (), 5) + ("s",), 2),
    (("S",) * 2 + (("repeat", 1, repeated(1, ("T",), 3)), ("repeat", 1, repeated(1, ("T",), 4))), 3),
    ((("repeat", 1, HUGE),) * 2000, 0),
    ("", None),
    ("S", None),
    ("( )x3", None),
    (["S"], None),
    (["s"], None),
    ([], None),
    ({}, None),
    ({"S": 1}, None),
    (b"S", None),
    (None, None),
    (True, None),
    (5, None),
    (range(3), None),
    (object(), None),
    (Odd(), None),
    (Agreeable(), None),
    (len, None),
    (("desk", 1, 2), 0),
    (("repeat", 2, ("S",)), 0),
    (("S", 1, 2), 1),
) + tuple((text, None) for text in TEXTS)


def passes_one_by_one(program):
    """Go through all passes of a program, the first one first."""
    for step in program:
        if isinstance(step, str):
            yield from step
        elif step[0] == "desk":
            yield from "S" * step[1] + "T" * step[2]
        else:
            for _ in range(step[1]):
                yield from passes_one_by_one(step[2])


def passes_from_the_end(program):
    """Go through the passes of a program from the last one backwards, as far as the caller asks."""
    for step in reversed(program):
        if isinstance(step, str):
            yield from reversed(step)
        elif step[0] == "desk":
            yield from "T" * step[2] + "S" * step[1]
        else:
            for _ in range(step[1]):
                any_pass = False
                for kind in passes_from_the_end(step[2]):
                    any_pass = True
                    yield kind
                if not any_pass:
                    break
