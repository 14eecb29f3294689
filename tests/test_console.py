"""lastpasses.console: a hall that is told what to do line by line."""

import itertools
import random
import unittest

from lastpasses.console import Console
from lastpasses.errors import (
    HeightTaken, InvalidCommand, InvalidHeight, InvalidPeople, LastPerson, NameTaken, NothingToUndo, OtherPersons,
    TooManyDeeds, TooManyPeople, TooManySeats, UnknownName,
)
from lastpasses.hall import Hall
from lastpasses.notation import format_program
from lastpasses.reach import word_to
from common import NUMBERS, ODD_VALUES, Agreeable, Odd, PromiseCase, walk_word
from sample_programs import MANY, PROGRAMS
from sample_records import NAMES

RANDOM = random.Random(59)

PEOPLE = (("ann", 170), ("bob", 180), ("cy", 160))

TWELVE = tuple(zip(NAMES, (170, 165, 180, 155, 190, 172, 171, 999, 1, 160, 181, 169)))

# Each is a command: with two spaces somewhere, or with anything behind it, it is none.
COMMANDS = (
    "run", "run S", "run S desk:1:0", "run ( S )x2", "enter dee 175", "leave ann", "undo", "row", "place ann",
    "settled", "deeds", "word ann bob cy", "word ann",
)

WRONG_LINES = (
    "", " ", "  ", "\n", "walk", "Run", "RUN", "Row", "runs", "rows", "ro", "un do", "help", "exit", "?", "run\n",
    "run\nS", "row\n", "\nrow", "run s", "run ST,", "run S  T", "run (", "run ( )", "run ( )x0", "run ( )x01",
    "run ( )x", "run (S)x2", "run ( S)x2", "run ( S )x2x", "run ( S )x1" + "0" * 29 + "1", "run ( S )x2" + "0" * 30,
    "run desk:1", "run desk:1:2:3", "run desk:7:6", "run desk:01:2", "run desk:-1:2", "run Desk:1:2", "run ()",
    "run " + "S" * 401, "run " + "S " * 60 + "S", "run " + "( " * 5 + "S" + " )x1" * 5, "run 5", "run run",
    "enter", "enter dee", "enter 175", "enter dee 175 1", "enter 175 dee", "enter Dee 175", "enter abcdefg 175",
    "enter d1 175", "enter dee 0175", "enter dee 00", "enter dee -175", "enter dee +175", "enter dee 1_000",
    "enter dee 1,75", "enter dee 17.5", "enter dee 175\n", "enter dee x", "enter dee " + "1" * 31,
    "enter dee 1" + "0" * 30, "enter dee 0x10", "enter dee,175", "enter dee\n175", "enter  dee 175", "enter dee  175",
    "leave", "leave Ann", "leave ann bob", "leave 5", "leave ann\n", "leave abcdefg", "leave ann,", "leave ann ann",
    "undo 1", "undo all", "undo undo", "row 1", "row row", "place", "place 0", "place ann bob", "place Ann",
    "place abcdefg", "settled?", "settled yes", "deeds 0", "deed", "word", "word Ann", "word ann Bob", "word ann bob 5",
    "word ann,bob,cy", "word ann bob abcdefg", "word ann bob cy\n", "word ann\nbob cy", "word S", "words ann bob cy",
    "x" * 2000, "row" + " " * 1997, "run " * 500,
) + tuple(" " + line for line in COMMANDS) + tuple(line + " " for line in COMMANDS) + tuple(
    line.replace(" ", "  ", 1) for line in COMMANDS if " " in line
) + tuple(line + "\n" for line in COMMANDS) + tuple("\n" + line for line in COMMANDS) + tuple(
    line.replace(" ", "\n", 1) for line in COMMANDS if " " in line
) + tuple(line.upper() for line in COMMANDS)


def told(console):
    """Everything that a console tells without being changed."""
    names = console.say("row")
    places = tuple(console.say("place " + name) for name in names.split(" "))
    return names, places, console.say("settled"), console.say("deeds")


class Commands(PromiseCase):
    def test_a_session(self):
        console = Console(PEOPLE)
        for line, answer in (
            ("row", "ann bob cy"), ("settled", "no"), ("deeds", "0"), ("place cy", "2"), ("run S", "ok"),
            ("row", "bob ann cy"), ("place ann", "1"), ("place bob", "0"), ("settled", "no"), ("deeds", "1"),
            ("run", "ok"), ("settled", "no"), ("deeds", "2"), ("row", "bob ann cy"), ("run T", "ok"),
            ("settled", "yes"), ("row", "ann cy bob"), ("enter dee 175", "ok"), ("row", "ann cy bob dee"),
            ("settled", "no"), ("run desk:1:2 ( S )x1000", "ok"), ("settled", "yes"), ("row", "bob dee ann cy"),
            ("leave ann", "ok"), ("row", "bob dee cy"), ("deeds", "6"), ("undo", "ok"), ("row", "bob dee ann cy"),
            ("undo", "ok"), ("row", "ann cy bob dee"), ("undo", "ok"), ("undo", "ok"), ("undo", "ok"), ("undo", "ok"),
            ("row", "ann bob cy"), ("deeds", "0"), ("word ann bob cy", "-"), ("word bob ann cy", "S"),
            ("word cy ann bob", "TT"), ("word cy bob ann", "never"), ("row", "ann bob cy"),
        ):
            with self.subTest(line=line):
                self.assert_same(console.say(line), answer)

    def test_by_name(self):
        self.assert_same(Console(people=PEOPLE).say(line="row"), "ann bob cy")

    def test_run(self):
        for program in PROGRAMS:
            console, hall = Console(TWELVE), Hall(TWELVE)
            text = format_program(program)
            self.assert_same(console.say("run " + text if program else "run"), "ok")
            hall.run(program)
            self.assert_same(console.say("row"), str(hall))
            self.assert_same(console.say("settled"), "yes" if hall.settled() else "no")
            self.assert_same(console.say("deeds"), "1")

    def test_run_alone_is_the_program_without_steps(self):
        console = Console(PEOPLE)
        self.assert_same(console.say("run"), "ok")
        self.assert_same(console.say("deeds"), "1")
        self.assert_same(console.say("row"), "ann bob cy")
        self.assert_error(InvalidCommand, "line", "run ", console.say, "run ")
        self.assert_same(console.say("run ( )x7"), "ok")

    def test_enter(self):
        console = Console(PEOPLE)
        for number, (name, height) in enumerate((("a", 1), ("abcdef", 999), ("run", 5), ("row", 6), ("undo", 7))):
            self.assert_same(console.say(f"enter {name} {height}"), "ok")
            self.assert_same(console.say("place " + name), str(number + 3))
        self.assert_same(console.say("leave undo"), "ok")

    def test_places_of_twelve_people(self):
        console = Console(TWELVE)
        for index, (name, _) in enumerate(TWELVE):
            self.assert_same(console.say("place " + name), str(index))

    def test_word(self):
        for size in range(1, 5):
            people = TWELVE[:size]
            heights = dict(people)
            row = tuple(height for _, height in people)
            console = Console(people)
            for names in itertools.permutations(heights):
                word = word_to(row, tuple(heights[name] for name in names))
                wanted = "never" if word is None else word or "-"
                self.assert_same(console.say("word " + " ".join(names)), wanted)
            self.assert_same(console.say("deeds"), "0")

    def test_the_word_leads_there(self):
        console, met = Console(TWELVE), set()
        names = {height: name for name, height in TWELVE}
        row = tuple(height for _, height in TWELVE)
        for length in range(12):
            other = walk_word(row, "".join(RANDOM.choice("ST") for _ in range(length)))
            line = " ".join(names[height] for height in other)
            word = console.say("word " + line)
            self.assert_same(console.say("run " + word if word != "-" else "run"), "ok")
            self.assert_same(console.say("row"), line)
            self.assert_same(console.say("word " + line), "-")
            met.add(len(word))
            console.say("undo")
        self.assertGreater(len(met), 8)


class WrongLines(PromiseCase):
    def refuse(self, console, error, attribute, value, line):
        before = told(console)
        if attribute is None:
            self.assert_plain_error(error, console.say, line)
        else:
            self.assert_error(error, attribute, value, console.say, line)
        self.assertEqual(told(console), before)

    def test_lines_that_are_no_command(self):
        console = Console(PEOPLE)
        console.say("run S")
        for line in WRONG_LINES:
            with self.subTest(line=line[:80]):
                self.refuse(console, InvalidCommand, "line", line, line)

    def test_no_strings(self):
        console = Console(PEOPLE)
        for line in ODD_VALUES + NUMBERS + (b"row", ("row",), ["row"], {"row"}, Odd(), Agreeable()):
            self.refuse(console, InvalidCommand, "line", line, line)

    def test_no_command_comes_ahead_of_the_errors_of_the_hall(self):
        console = Console((("ann", 170),))
        for line in ("leave ann ", "enter ann 0175", "run desk:6:6 s", "place nobody 1", "undo ", "word nobody Ann"):
            self.refuse(console, InvalidCommand, "line", line, line)

    def test_errors_of_the_hall(self):
        console = Console(PEOPLE)
        self.refuse(console, NothingToUndo, None, None, "undo")
        self.refuse(console, TooManySeats, "seats", 4, "run S desk:2:2")
        self.refuse(console, TooManySeats, "seats", 12, f"run ( desk:2:2 ( desk:0:12 )x{MANY} )x{MANY}")
        self.refuse(console, NameTaken, "name", "ann", "enter ann 175")
        self.refuse(console, NameTaken, "name", "ann", "enter ann 0")
        self.refuse(console, InvalidHeight, "height", 0, "enter dee 0")
        self.refuse(console, InvalidHeight, "height", 1000, "enter dee 1000")
        self.refuse(console, InvalidHeight, "height", int("1" * 30), "enter dee " + "1" * 30)
        self.refuse(console, InvalidHeight, "height", 10 ** 30 - 1, "enter dee " + "9" * 30)
        self.refuse(console, HeightTaken, "height", 180, "enter dee 180")
        self.refuse(console, UnknownName, "name", "eve", "leave eve")
        self.refuse(console, UnknownName, "name", "eve", "place eve")
        console.say("leave bob")
        console.say("leave cy")
        self.refuse(console, LastPerson, None, None, "leave ann")
        self.refuse(console, UnknownName, "name", "bob", "leave bob")

    def test_twelve_people(self):
        console = Console(TWELVE)
        self.refuse(console, TooManyPeople, "count", 12, "enter new 2")
        self.refuse(console, HeightTaken, "height", 999, "enter new 999")

    def test_two_thousand_deeds_and_one_more(self):
        console = Console(PEOPLE)
        for _ in range(2000):
            console.say("run T")
        self.assert_same(console.say("deeds"), "2000")
        for line in ("run", "run S", "enter dee 175", "leave ann"):
            self.refuse(console, TooManyDeeds, "count", 2000, line)
        self.refuse(console, UnknownName, "name", "eve", "leave eve")
        console.say("undo")
        self.assert_same(console.say("enter dee 175"), "ok")

    def test_other_names(self):
        console = Console(PEOPLE)
        for line in (
            "word ann", "word ann bob", "word bob", "word ann bob dee", "word ann bob cy dee", "word ann ann",
            "word ann bob ann", "word ann bob cy cy", "word dee", "word ann bob c", "word a b c",
            "word " + " ".join(["ann"] * 400),
        ):
            self.refuse(console, OtherPersons, None, None, line)
        one = Console((("ann", 170),))
        self.assert_same(one.say("word ann"), "-")
        self.refuse(one, OtherPersons, None, None, "word bob")
        self.refuse(one, OtherPersons, None, None, "word ann ann")


class People(PromiseCase):
    def test_errors(self):
        for people, index in (
            (None, None), ((), None), (list(PEOPLE), None), ((None,) * 13, None), ("ann", None), (Odd(), None),
            (PEOPLE + (("ann", 1),), 3), (PEOPLE + (("dee", 170),), 3), ((("ann", True),), 0), ((Odd(),), 0),
            ((("Ann", 170),), 0), ((["ann", 170],), 0), ((("ann", 170), ("bob", 0)), 1),
        ):
            self.assert_error(InvalidPeople, "index", index, Console, people)
            self.assert_error(InvalidPeople, "index", index, Console, people=people)

    def test_consoles_do_not_share_anything(self):
        one, two = Console(PEOPLE), Console(PEOPLE)
        one.say("leave ann")
        self.assert_same(two.say("row"), "ann bob cy")
        self.assert_same(two.say("deeds"), "0")


if __name__ == "__main__":
    unittest.main()
