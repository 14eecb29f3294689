"""lastpasses.programs: what a program is, its passes, its desks, its effect, and the errors."""

import itertools
import unittest

from lastpasses.desks import desk
from lastpasses.errors import InvalidNumber, InvalidProgram, InvalidRow, TooManySeats
from lastpasses.programs import count_passes, is_program, largest_desk, last_passes, run
from common import (
    LONG_ROWS, ODD_VALUES, TEXTS, WRONG_ROWS, Odd, PromiseCase, all_rows, rows_of_all_sizes, walk_at_the_chair,
    walk_word,
)
from sample_programs import (
    LARGE_PROGRAMS, LIMIT_PROGRAMS, MANY, PROGRAMS, SHOWN, SMALL_PROGRAMS, WRONG_PROGRAMS, WRONG_STEPS,
    passes_from_the_end, passes_one_by_one, repeated,
)

ROWS = rows_of_all_sizes()

WRONG_COUNTS = (-1, 401, 10 ** 59, -(10 ** 59), MANY) + ODD_VALUES + TEXTS


def seats_one_by_one(program):
    """The numbers of seats of all desks, those of inner programs too."""
    for step in program:
        if not isinstance(step, str):
            yield from [step[1] + step[2]] if step[0] == "desk" else seats_one_by_one(step[2])


def walk_program(row, program):
    """The row after a program, step by step, through its desks and all its repetitions."""
    for step in program:
        if isinstance(step, str):
            row = walk_word(row, step)
        elif step[0] == "desk":
            row = desk(row, step[1], step[2])
        else:
            for _ in range(step[1]):
                row = walk_program(row, step[2])
    return row


def end_of(program, count):
    return "".join(reversed(list(itertools.islice(passes_from_the_end(program), count))))


class IsProgram(PromiseCase):
    def test_programs(self):
        for number, program in enumerate(PROGRAMS):
            with self.subTest(number=number):
                self.assertIs(is_program(program), True)

    def test_what_is_no_program(self):
        for number, (value, _) in enumerate(WRONG_PROGRAMS):
            with self.subTest(number=number):
                self.assertIs(is_program(value), False)

    def test_wrong_steps_at_every_place(self):
        for number, step in enumerate(WRONG_STEPS):
            with self.subTest(number=number):
                self.assertIs(is_program(("S", step)), False)
                self.assertIs(is_program((step, "S")), False)
                self.assertIs(is_program((("repeat", 2, (step,)),)), False)
                self.assertIs(is_program((("repeat", 2, ("T", ("repeat", 1, ("S", step)))),)), False)

    def test_number_of_steps(self):
        for inner in range(60):
            for outer in range(60):
                for step in ("T", ("desk", 0, 1), ("repeat", 1, ())):
                    program = (step,) * outer + (("repeat", 2, (step,) * inner),)
                    self.assertIs(is_program(program), outer + 1 + inner <= 60)

    def test_number_of_nested_programs(self):
        for depth in range(8):
            for inner in ((), ("S",), (("desk", 1, 1),)):
                self.assertIs(is_program(repeated(3, inner, depth)), depth + 1 <= 5)

    def test_times(self):
        for times in (1, 2, 400, MANY - 1, MANY):
            self.assertIs(is_program((("repeat", times, ("S",)),)), True)
        for times in (0, -1, MANY + 1, 10 ** 59, True, False):
            self.assertIs(is_program((("repeat", times, ("S",)),)), False)

    def test_seats(self):
        for shorts in range(-2, 16):
            for talls in range(-2, 16):
                wanted = shorts >= 0 and talls >= 0 and shorts + talls <= 12
                self.assertIs(is_program((("desk", shorts, talls),)), wanted)

    def test_letters(self):
        for length in (0, 1, 2, 399, 400, 401, 402, 2000):
            for letter in "ST":
                self.assertIs(is_program((letter * length,)), 1 <= length <= 400)

    def test_by_name(self):
        self.assertIs(is_program(value=SHOWN), True)
        self.assertIs(is_program(value=["S"]), False)


class CountPasses(PromiseCase):
    def test_known_counts(self):
        self.assert_same(count_passes(()), (0, 0))
        self.assert_same(count_passes(("SST", "T")), (2, 2))
        self.assert_same(count_passes((("desk", 3, 4),)), (3, 4))
        self.assert_same(count_passes(SHOWN), (1003, 1003))

    def test_one_by_one(self):
        for program in SMALL_PROGRAMS:
            passes = list(passes_one_by_one(program))
            self.assert_same(count_passes(program), (passes.count("S"), passes.count("T")))

    def test_repeats_in_repeats(self):
        self.assert_same(count_passes((("repeat", MANY, ("S",)),)), (MANY, 0))
        self.assert_same(count_passes(repeated(MANY, ("TTS",), 4)), (10 ** 120, 2 * 10 ** 120))
        self.assert_same(count_passes(repeated(MANY, (), 4)), (0, 0))
        self.assert_same(count_passes(repeated(MANY, (("desk", 0, 0),), 3)), (0, 0))
        self.assert_same(count_passes(repeated(MANY, (("desk", 5, 7), "T"), 3)), (5 * 10 ** 90, 8 * 10 ** 90))
        self.assert_same(count_passes(("T", ("repeat", MANY, ("SST",)), "S")), (2 * MANY + 1, MANY + 1))
        program = (("repeat", MANY, ("T", ("repeat", MANY - 1, ("S",)), ("desk", 1, 2))),)
        self.assert_same(count_passes(program), (MANY * MANY, 3 * MANY))

    def test_by_name(self):
        self.assert_same(count_passes(program=SHOWN), (1003, 1003))


class LastPasses(PromiseCase):
    def test_known_passes(self):
        self.assert_same(last_passes(SHOWN, count=5), "STSTS")
        self.assert_same(last_passes(("SST", ("desk", 2, 1)), count=4), "TSST")
        self.assert_same(last_passes((("repeat", 3, ("ST",)), "S")), "STSTSTS")

    def test_one_by_one(self):
        for program in SMALL_PROGRAMS:
            passes = "".join(passes_one_by_one(program))
            self.assert_same(last_passes(program), passes[-400:])
            for count in (0, 1, 2, 3, 11, 12, 399, 400):
                self.assert_same(last_passes(program, count=count), passes[max(0, len(passes) - count):])

    def test_from_the_end(self):
        for program in PROGRAMS:
            self.assert_same(last_passes(program), end_of(program, 400))
            for count in (0, 1, 2, 3, 7, 11, 12, 13, 100, 398, 399, 400):
                self.assert_same(last_passes(program, count=count), end_of(program, count))

    def test_every_count(self):
        for program in LARGE_PROGRAMS + SMALL_PROGRAMS[-7:]:
            whole = end_of(program, 400)
            for count in range(401):
                wanted = whole[max(0, len(whole) - count):]
                self.assert_same(last_passes(program, count=count), wanted)

    def test_repeats_without_passes(self):
        for program in (repeated(MANY, (), 4), repeated(MANY, (("desk", 0, 0),), 4), (("repeat", MANY, ()),) * 60):
            for count in (0, 1, 400):
                self.assert_same(last_passes(program, count=count), "")
            self.assert_same(last_passes(("SST",) + program[:3], count=2), "ST")

    def test_without_a_count(self):
        self.assert_same(last_passes(()), "")
        self.assert_same(last_passes(("S" * 400, "T")), "S" * 399 + "T")
        self.assert_same(last_passes((("repeat", MANY, ("ST",)),)), "ST" * 200)

    def test_the_count_by_name_only(self):
        self.assert_same(last_passes(program=SHOWN, count=5), "STSTS")
        self.assert_same(last_passes(count=5, program=SHOWN), "STSTS")
        with self.assertRaises(TypeError):
            last_passes(SHOWN, 5)


class LargestDesk(PromiseCase):
    def test_known_desks(self):
        self.assert_same(largest_desk(()), 0)
        self.assert_same(largest_desk(("SST",)), 0)
        self.assert_same(largest_desk((("desk", 0, 0),)), 0)
        self.assert_same(largest_desk((("desk", 5, 7), ("desk", 1, 1))), 12)
        self.assert_same(largest_desk(SHOWN), 3)

    def test_all_desks_count(self):
        for program in PROGRAMS:
            self.assert_same(largest_desk(program), max(seats_one_by_one(program), default=0))

    def test_desks_of_inner_programs(self):
        for depth in range(5):
            self.assert_same(largest_desk((("desk", 1, 1),) + repeated(MANY, (("desk", 3, 4),), depth)), 7)
            self.assert_same(largest_desk(repeated(MANY, (("desk", 3, 4),), depth) + (("desk", 6, 2),)), 8)

    def test_by_name(self):
        self.assert_same(largest_desk(program=SHOWN), 3)


class Run(PromiseCase):
    def test_known_rows(self):
        self.assert_same(run((2, 4, 1, 3), SHOWN), (3, 2, 4, 1))
        self.assert_same(run((2, 4, 1, 3), ("ST",)), (2, 3, 1, 4))
        self.assert_same(run((3, 1, 4, 2), (("desk", 1, 1),)), (3, 2, 1, 4))

    def test_no_passes(self):
        for row in ROWS:
            for program in ((), (("desk", 0, 0),), repeated(MANY, (), 4), repeated(MANY, (("desk", 0, 0),), 4)):
                self.assert_same(run(row, program), row)

    def test_step_by_step(self):
        for row in ROWS + all_rows(3) + all_rows(4):
            for program in SMALL_PROGRAMS:
                if max(seats_one_by_one(program), default=0) <= len(row):
                    self.assert_same(run(row, program), walk_program(row, program))

    def test_large_programs(self):
        # Only the last passes are performed here: those before them leave no trace.
        for row in ROWS:
            for program in LARGE_PROGRAMS + LIMIT_PROGRAMS:
                if max(seats_one_by_one(program), default=0) <= len(row):
                    self.assert_same(run(row, program), walk_word(row, end_of(program, len(row) - 1)))
                    self.assert_same(run(row, program), walk_word(row, end_of(program, 40)))

    def test_one_repetition_more_or_less(self):
        for row in LONG_ROWS:
            for times in range(1, 20):
                found = row
                for _ in range(times):
                    found = walk_at_the_chair(walk_at_the_chair(found, "S")[0], "T")[0]
                self.assert_same(run(row, (("repeat", times, ("ST",)),)), found)

    def test_as_many_seats_as_people(self):
        for row in ROWS:
            for shorts in range(len(row) + 1):
                program = ("TS", ("desk", shorts, len(row) - shorts))
                self.assert_same(run(row, program), walk_program(row, program))

    def test_too_many_seats(self):
        for size in range(1, 12):
            row = tuple(range(1, size + 1))
            for seats in range(size + 1, 13):
                for shorts in (0, 1, seats):
                    step = ("desk", shorts, seats - shorts)
                    for program in ((step,), ("T", step, "S"), (("desk", 1, 0), step, ("desk", 0, 1))):
                        for depth in (0, 1, 4):
                            self.assert_error(TooManySeats, "seats", seats, run, row, repeated(MANY, program, depth))

    def test_by_name(self):
        self.assert_same(run(row=(2, 4, 1, 3), program=SHOWN), (3, 2, 4, 1))
        self.assert_same(run((2, 4, 1, 3), program=SHOWN), (3, 2, 4, 1))
        self.assert_same(run(program=SHOWN, row=(2, 4, 1, 3)), (3, 2, 4, 1))


class Errors(PromiseCase):
    def test_programs(self):
        for number, (program, index) in enumerate(WRONG_PROGRAMS):
            with self.subTest(number=number, index=index):
                for call in (count_passes, last_passes, largest_desk):
                    self.assert_error(InvalidProgram, "index", index, call, program)
                    self.assert_error(InvalidProgram, "index", index, call, program=program)
                self.assert_error(InvalidProgram, "index", index, last_passes, program, count=0)
                self.assert_error(InvalidProgram, "index", index, run, (2, 4), program)
                self.assert_error(InvalidProgram, "index", index, run, row=(2, 4), program=program)

    def test_the_first_wrong_step(self):
        for step in WRONG_STEPS:
            for before in (0, 1, 2, 5):
                program = ("S",) * before + (step, "T", None, "s")
                self.assert_error(InvalidProgram, "index", before, count_passes, program)

    def test_counts(self):
        for count in WRONG_COUNTS:
            with self.subTest(count=str(type(count))):
                for program in ((), ("S",), SHOWN):
                    self.assert_error(InvalidNumber, "number", count, last_passes, program, count=count)

    def test_the_program_before_the_count(self):
        for count in WRONG_COUNTS:
            self.assert_error(InvalidProgram, "index", 1, last_passes, ("S", "s"), count=count)
            self.assert_error(InvalidProgram, "index", None, last_passes, count=count, program=["S"])

    def test_rows(self):
        for row, index in WRONG_ROWS:
            with self.subTest(index=index):
                self.assert_error(InvalidRow, "index", index, run, row, SHOWN)
                self.assert_error(InvalidRow, "index", index, run, row, ())

    def test_order(self):
        for wrong, index in (((("desk", 12, 1),), 0), (["S"], None), (("S", True), 1), (Odd(), None)):
            self.assert_order(
                run,
                ("row", (2, 4), (2, 2), InvalidRow, "index", 1),
                ("program", ("S",), wrong, InvalidProgram, "index", index),
            )

    def test_seats_come_last(self):
        self.assert_error(InvalidRow, "index", 1, run, (2, 2), (("desk", 6, 6),))
        self.assert_error(InvalidProgram, "index", 1, run, (2, 4), (("desk", 6, 6), ("desk", 6, 7)))
        self.assert_error(TooManySeats, "seats", 12, run, (2, 4), (("desk", 6, 6), ("desk", 2, 1)))


class Arguments(PromiseCase):
    def test_results_are_new_tuples(self):
        for row in ROWS:
            self.assertIs(type(run(row, ())), tuple)
            self.assertIsNot(run(row, ()), row)

    def test_nothing_is_modified(self):
        inner = ["S", "T"]
        program = ("S", ("repeat", 2, inner))
        for call in (count_passes, last_passes, largest_desk):
            self.assert_error(InvalidProgram, "index", 1, call, program)
        self.assertEqual(program, ("S", ("repeat", 2, ["S", "T"])))
        people = [2, 4, 1, 3]
        self.assert_error(InvalidRow, "index", None, run, people, ("S",))
        self.assertEqual(people, [2, 4, 1, 3])

    def test_equal_calls_return_equal_results(self):
        for program in PROGRAMS:
            self.assert_same(count_passes(program), count_passes(tuple(list(program))))
            self.assert_same(last_passes(program), last_passes(tuple(list(program))))
            self.assert_same(largest_desk(program), largest_desk(tuple(list(program))))
            for row in LONG_ROWS:
                self.assert_same(run(row, program), run(tuple(list(row)), tuple(list(program))))


if __name__ == "__main__":
    unittest.main()
