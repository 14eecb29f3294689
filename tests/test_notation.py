"""lastpasses.notation: programs written and read."""

import unittest

from lastpasses.errors import InvalidProgram, InvalidText
from lastpasses.notation import format_program, parse_program
from lastpasses.programs import is_program
from common import NUMBERS, ODD_VALUES, Odd, PromiseCase
from sample_programs import MANY, PROGRAMS, SHOWN, WRONG_PROGRAMS, repeated

WRITTEN = (
    ((), ""),
    (("S",), "S"),
    (("ST",), "ST"),
    (("S", "T"), "S T"),
    (("S" * 400, "T"), "S" * 400 + " T"),
    ((("desk", 0, 0),), "desk:0:0"),
    ((("desk", 12, 0), ("desk", 0, 12), ("desk", 2, 10)), "desk:12:0 desk:0:12 desk:2:10"),
    ((("repeat", 1, ()),), "( )x1"),
    ((("repeat", MANY, ("T",)),), "( T )x1" + "0" * 30),
    ((("repeat", 10, ()), ("repeat", 20, ())), "( )x10 ( )x20"),
    ((("repeat", 2, (("repeat", 3, ()), "T")),), "( ( )x3 T )x2"),
    ((("repeat", 2, ("S", ("repeat", 3, ("T",)))), "SS"), "( S ( T )x3 )x2 SS"),
    (repeated(7, (), 4), "( ( ( ( )x7 )x7 )x7 )x7"),
    (repeated(7, ("S", ("desk", 1, 2)), 4), "( ( ( ( S desk:1:2 )x7 )x7 )x7 )x7"),
    (SHOWN, "SST desk:1:2 ( T desk:1:0 )x1000"),
)

WRONG_TEXTS = (
    # Spaces and newlines.
    " ", "  ", "T  S", " T", "T ", " T S", "T S ", "( )x3 ", " ( )x3", "(  )x3", "( T  )x3", "(  T )x3", "\n", "T\n",
    "\nT", "S\nT", "T\n S", "( )x3\n", "desk:1:2\n", "(\n)x3", "( )x\n3", "desk:1:\n2", "\n\n",
    # Words.
    "s", "t", "st", "Ss", "ST?", "S,T", "S-T", "0", "1", "X", "TSTs", "('T',)", "()", "''", "S" * 401, "T " + "S" * 401,
    "( " + "S" * 401 + " )x2", "S" * 2000,
    # Desks.
    "desk", "desk:", "desk:1", "desk:1:", "desk::1", "desk::", "desk:1:2:3", "desk:1:2:", ":1:2", "desk1:2", "desk:12",
    "Desk:1:2", "DESK:1:2", "desk;1;2", "desk:1;2", "desk: 1:2", "desk:1: 2", "desk :1:2", "desk 1 2", "desk:1:2S",
    "Sdesk:1:2", "xdesk:1:2", "desks:1:2", "desk:01:2", "desk:1:02", "desk:00:0", "desk:0:00", "desk:-1:2", "desk:1:-2",
    "desk:-0:0", "desk:+1:2", "desk:1:+2", "desk:1_0:2", "desk:a:2", "desk:1:b", "desk:1:2x3", "desk:1.0:2",
    "desk:0x1:2", "desk:True:1", "desk:13:0", "desk:0:13", "desk:12:1", "desk:7:6", "desk:999999999999:0",
    "desk:1:" + "9" * 1900, "( desk:13:0 )x2", "S:1:2", ":", "::", "repeat:2:3",
    # Parentheses.
    "(", ")", "( )", "()x3", "( ) x3", "( )x", "( )x ", "( )3", "( )X3", "( )*3", ")x3", ")x3 (", "( ( )x3", "( T",
    "T )x3", "( )x3 )x3", "( T )x3 )x3", "( ( T )x3 )x3 )x3", "( ( ( T )x3 )x3", "(T )x3", "( T)x3", "(T)x3",
    "( T )x3)",
    "( T )x3 )", "((  )x3 )x3", "(( )x3 )x3", "( ( )x3)x3", "[ T ]x3", "{ T }x3", "( T )x3x3", "( T )x3T", "( T )x3:1",
    "S( T )x3", "( )x3( )x3", "x3", "T x3",
    # Times.
    "( )x0", "( )x00", "( )x01", "( )x03", "( T )x010", "( )x-1", "( )x+1", "( )x1_0", "( )x1.", "( )x1,000", "( )xx",
    "( )x1e3", "( )xMANY", "( )x" + str(MANY + 1), "( )x" + "9" * 30 + "9", "( )x2" + "0" * 30, "( )x" + "9" * 1900,
    "( )x0" + str(MANY), "( T ( S )x0 )x2",
    # Too many steps, too many programs.
    " ".join(["S"] * 61), " ".join(["( )x1"] * 61), "( " + "S " * 60 + ")x2", "( " + "S " * 59 + ")x2 T",
    " ".join(["S"] * 1000), "( ( ( ( ( )x7 )x7 )x7 )x7 )x7", "S ( ( ( ( ( T )x1 )x1 )x1 )x1 )x1",
    "( " * 300 + ")x1 " * 299 + ")x1", "( " * 999, ")x1 " * 499 + ")x1",
)

WRONG_VALUES = NUMBERS + ODD_VALUES + (("T",), ["T"], b"T", ("T", ("desk", 1, 2)))


class Format(PromiseCase):
    def test_known_texts(self):
        for program, text in WRITTEN:
            with self.subTest(text=text):
                self.assert_same(format_program(program), text)

    def test_long_texts(self):
        text = format_program(("S" * 400,) * 60)
        self.assert_same(text, " ".join(["S" * 400] * 60))
        self.assertGreater(len(text), 2000)

    def test_errors(self):
        for number, (program, index) in enumerate(WRONG_PROGRAMS):
            with self.subTest(number=number, index=index):
                self.assert_error(InvalidProgram, "index", index, format_program, program)

    def test_by_name(self):
        self.assert_same(format_program(program=SHOWN), "SST desk:1:2 ( T desk:1:0 )x1000")
        self.assert_error(InvalidProgram, "index", 1, format_program, program=("S", "s"))


class Parse(PromiseCase):
    def test_known_programs(self):
        for program, text in WRITTEN:
            with self.subTest(text=text):
                self.assert_same(parse_program(text), program)
        self.assert_same(parse_program("T ( )x3 desk:0:2"), ("T", ("repeat", 3, ()), ("desk", 0, 2)))

    def test_written_and_read_again(self):
        for number, program in enumerate(PROGRAMS):
            with self.subTest(number=number):
                self.assert_same(parse_program(format_program(program)), program)

    def test_read_and_written_again(self):
        for _, text in WRITTEN:
            self.assert_same(format_program(parse_program(text)), text)

    def test_long_texts(self):
        programs = (
            ("S" * 400,) * 60,
            (("repeat", MANY, ("ST" * 200,) * 59),),
            repeated(MANY, ("T" * 400, ("desk", 6, 6)) * 28, 4),
        )
        for program in programs:
            text = format_program(program)
            self.assertGreater(len(text), 2000)
            self.assert_same(parse_program(text), program)

    def test_all_desks(self):
        for shorts in range(13):
            for talls in range(13):
                text = f"desk:{shorts}:{talls}"
                if shorts + talls <= 12:
                    self.assert_same(parse_program(text), (("desk", shorts, talls),))
                else:
                    self.assert_error(InvalidText, "text", text, parse_program, text)

    def test_times(self):
        for times in (1, 9, 10, 99, 100, 10 ** 29, MANY - 1, MANY):
            self.assert_same(parse_program(f"( T )x{times}"), (("repeat", times, ("T",)),))

    def test_at_the_limits(self):
        self.assert_same(parse_program(" ".join(["S"] * 60)), ("S",) * 60)
        self.assert_same(parse_program("( " + "S " * 59 + ")x2"), (("repeat", 2, ("S",) * 59),))
        self.assert_same(parse_program("( ( ( ( T )x1 )x1 )x1 )x1"), repeated(1, ("T",), 4))

    def test_what_is_no_written_form(self):
        for text in WRONG_TEXTS:
            with self.subTest(text=text):
                self.assert_error(InvalidText, "text", text, parse_program, text)

    def test_every_other_character(self):
        for code in list(range(32, 127)) + [10]:
            character = chr(code)
            if character not in "ST":
                for text in (character, "S" + character, character + "S"):
                    self.assert_error(InvalidText, "text", text, parse_program, text)
            if character not in "ST ":
                text = "S" + character + "S"
                self.assert_error(InvalidText, "text", text, parse_program, text)

    def test_one_change_of_a_written_form(self):
        # Whatever is still read after a change is written just so.
        text = "ST desk:1:10 ( T ( )x3 desk:0:2 )x20"
        for at in range(len(text)):
            for inserted in ("", " ", "0", "1", ":", "(", ")", "x", "S", "\n"):
                for changed in (text[:at] + inserted + text[at:], text[:at] + inserted + text[at + 1:]):
                    with self.subTest(changed=changed):
                        try:
                            program = parse_program(changed)
                        except InvalidText as error:
                            self.assertEqual(error.text, changed)
                        else:
                            self.assertIs(is_program(program), True)
                            self.assert_same(format_program(program), changed)

    def test_other_values(self):
        for value in WRONG_VALUES:
            with self.subTest(value=str(type(value))):
                self.assert_error(InvalidText, "text", value, parse_program, value)

    def test_by_name(self):
        self.assert_same(parse_program(text="T S"), ("T", "S"))
        self.assert_error(InvalidText, "text", "T  S", parse_program, text="T  S")
        self.assert_error(InvalidText, "text", None, parse_program, text=None)

    def test_equal_calls_return_equal_results(self):
        for _, text in WRITTEN:
            self.assert_same(parse_program(text), parse_program("".join(list(text))))


class Arguments(PromiseCase):
    def test_nothing_is_modified(self):
        inner = ["S", "T"]
        program = ("S", ("repeat", 2, inner), Odd())
        self.assert_error(InvalidProgram, "index", 1, format_program, program)
        self.assertEqual(inner, ["S", "T"])


if __name__ == "__main__":
    unittest.main()
