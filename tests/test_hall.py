"""lastpasses.hall: people with names in a row, deeds, a log, and taking deeds back."""

import random
import unittest

from lastpasses.errors import (
    FindError, HeightTaken, InvalidDeed, InvalidHeight, InvalidName, InvalidPeople, InvalidProgram, LastPerson,
    LimitError, NameTaken, NothingToUndo, PassError, TooManyDeeds, TooManyPeople, TooManySeats, UnknownName,
)
from lastpasses.hall import Hall, replay
from common import NUMBERS, ODD_VALUES, TEXTS, Agreeable, Odd, PromiseCase, nested, walk_word
from sample_programs import MANY, SMALL_PROGRAMS, WRONG_PROGRAMS, passes_one_by_one, repeated
from sample_records import NAMES, WRONG_NAMES

RANDOM = random.Random(43)

PEOPLE = (("ann", 170), ("bob", 180), ("cy", 160))

TWELVE = tuple(zip(NAMES, (170, 165, 180, 155, 190, 172, 171, 999, 1, 160, 181, 169)))

WRONG_PERSONS = (
    (), ("dee",), ("dee", 175, 175), (175, "dee"), ["dee", 175], {"dee": 175}, "dee", ("dee", 0), ("dee", 1000),
    ("dee", -1), ("dee", True), ("dee", None), ("dee", "175"), ("dee", (175,)), ("dee", Odd()), ("dee", Agreeable()),
    ("dee", 10 ** 59), ("Dee", 175), ("", 175), ("abcdefg", 175), ("de e", 175), ("dee\n", 175), (None, 175),
    (True, 175), (b"dee", 175), (("dee",), 175), (Odd(), 175), (Agreeable(), 175), (Odd(), Odd()),
    (("dee", 175),), nested(18),
) + ODD_VALUES + NUMBERS + TEXTS

WRONG_PEOPLE = (
    ((), None), (TWELVE + (("thirte", 2),), None), ((None,) * 13, None), ((Odd(),) * 13, None), (PEOPLE * 100, None),
    (list(PEOPLE), None), ([], None), ("ann", None), (dict(PEOPLE), None), (None, None), (True, None), (3, None),
    (Odd(), None), (Agreeable(), None), (len, None), (b"", None), (range(2), None),
    (("ann", 170), 0), (PEOPLE + (("ann", 175),), 3), (PEOPLE + (("dee", 180),), 3), (PEOPLE + PEOPLE[:1], 3),
    ((PEOPLE[0], PEOPLE[0]), 1), ((("ann", 170), ("bob", 170)), 1), ((("ann", 170), ("ann", 171)), 1),
    (PEOPLE + (("ann", 1), Odd()), 3), (TWELVE[:11] + (("cy", 2),), 11), (TWELVE[:11] + (("dees", 170),), 11),
) + tuple(
    (PEOPLE[:at] + (person,) + PEOPLE[at + 1:], at) for at in range(3) for person in WRONG_PERSONS
) + tuple((PEOPLE + (person, person), 3) for person in WRONG_PERSONS)

WRONG_PERSON_HEIGHTS = (0, 1000, -1, 10 ** 59, -(10 ** 59), "175", "", (175,), [175], nested(19)) + ODD_VALUES

# Elements that are no deed: no such word, or another number of parts.
WRONG_DEEDS = (
    (), ("run",), ("run", (), ()), ("enter",), ("enter", "dee"), ("enter", "dee", 175, 1), ("leave",),
    ("leave", "ann", "bob"), ("undo",), ("undo", ()), ("walk", ()), ("Run", ()), ("RUN", ()), ("run ", ()), ("", ()),
    ("leave ", "ann"), ("rune", ()), (b"run", ()), (("run",), ()), (None, ()), (True, ()), (1, ()), (Odd(), ()),
    (Agreeable(), "ann"), (Odd(), "dee", 175), ["run", ()], ["leave", "ann"], "run", "leave", {"run": ()}, ([], ()),
    ({}, ()), (("run", ()),), nested(18),
) + ODD_VALUES + NUMBERS + TEXTS

# Deeds that this hall cannot do, with the error and its attribute.
HOPELESS = (
    (("run", None), InvalidProgram, "index", None),
    (("run", "S"), InvalidProgram, "index", None),
    (("run", ["S"]), InvalidProgram, "index", None),
    (("run", ("S", "s")), InvalidProgram, "index", 1),
    (("run", Odd()), InvalidProgram, "index", None),
    (("run", (("desk", 7, 5),)), TooManySeats, "seats", 12),
    (("enter", None, None), InvalidName, "name", None),
    (("enter", "Dee", 175), InvalidName, "name", "Dee"),
    (("enter", "ann", 175), NameTaken, "name", "ann"),
    (("enter", "ann", 0), NameTaken, "name", "ann"),
    (("enter", "dee", 1000), InvalidHeight, "height", 1000),
    (("enter", "dee", True), InvalidHeight, "height", True),
    (("enter", "dee", 180), HeightTaken, "height", 180),
    (("leave", "eve"), UnknownName, "name", "eve"),
    (("leave", None), UnknownName, "name", None),
    (("leave", ("ann",)), UnknownName, "name", ("ann",)),
)


class Model:
    """What a hall must be, by lists and passes one by one."""

    def __init__(self, people):
        self.people = list(people)
        self.log = []
        self.snapshots = []

    def do(self, deed):
        self.snapshots.append(list(self.people))
        self.log.append(deed)
        if deed[0] == "run":
            names = {height: name for name, height in self.people}
            row = tuple(height for _, height in self.people)
            row = walk_word(row, "".join(passes_one_by_one(deed[1])))
            self.people = [(names[height], height) for height in row]
        elif deed[0] == "enter":
            self.people.append(deed[1:])
        else:
            self.people = [person for person in self.people if person[0] != deed[1]]

    def undo(self):
        self.people = self.snapshots.pop()
        self.log.pop()

    def settled(self):
        passes = 0
        for deed in self.log:
            passes = passes + len(list(passes_one_by_one(deed[1]))) if deed[0] == "run" else 0
        return passes >= len(self.people) - 1


def drawn_deed(people):
    """A deed that can be done."""
    choice = RANDOM.randrange(4)
    names = [name for name, _ in people]
    heights = [height for _, height in people]
    if choice == 0 and len(people) < 12:
        name = RANDOM.choice([name for name in NAMES if name not in names])
        return "enter", name, RANDOM.choice([height for height in range(1, 1000) if height not in heights])
    if choice == 1 and len(people) > 1:
        return "leave", RANDOM.choice(names)
    program = RANDOM.choice(SMALL_PROGRAMS[:16])
    if max([step[1] + step[2] for step in flat(program)], default=0) > len(people):
        program = ("ST", "T" * RANDOM.randrange(1, 4))
    return "run", program


def flat(program):
    """The desks of a program, those of inner programs too."""
    for step in program:
        if step[0] == "desk":
            yield step
        elif step[0] == "repeat":
            yield from flat(step[2])


def told(hall):
    """Everything that a hall tells of itself."""
    return (
        hall.names(), hall.heights(), hall.people(), hall.log(), len(hall), str(hall), repr(hall), hall.settled(),
        hall.busy, tuple(hall.index_of(name) for name in hall.names()),
    )


def perform(hall, deed):
    """The deed by its own method."""
    if deed[0] == "run":
        return hall.run(deed[1])
    if deed[0] == "enter":
        return hall.enter(deed[1], deed[2])
    return hall.leave(deed[1])


class Telling(PromiseCase):
    def check_hall(self, hall, model):
        people = tuple(model.people)
        names = tuple(name for name, _ in people)
        self.assert_same(hall.people(), people)
        self.assert_same(hall.names(), names)
        self.assert_same(hall.heights(), tuple(height for _, height in people))
        self.assert_same(hall.log(), tuple(model.log))
        self.assert_same(len(hall), len(people))
        self.assert_same(str(hall), " ".join(names))
        self.assert_same(repr(hall), f"Hall({len(people)})")
        self.assert_same(hall.settled(), model.settled())
        self.assert_same(hall.busy, False)
        for index, name in enumerate(names):
            self.assert_same(hall.index_of(name), index)
            self.assert_same(hall.index_of(name=name), index)
        self.assertTrue(hall == Hall(people))
        self.assertFalse(hall != Hall(people))

    def test_new_halls(self):
        for size in range(1, 13):
            self.check_hall(Hall(TWELVE[:size]), Model(TWELVE[:size]))
            self.check_hall(Hall(people=TWELVE[:size]), Model(TWELVE[:size]))
        self.check_hall(Hall((("a", 1), ("abcdef", 999))), Model((("a", 1), ("abcdef", 999))))

    def test_behind_each_deed(self):
        for size in (1, 2, 3, 6, 11, 12):
            for _ in range(4):
                hall, model = Hall(TWELVE[:size]), Model(TWELVE[:size])
                for _ in range(25):
                    deed = drawn_deed(model.people)
                    self.assertIsNone(perform(hall, deed))
                    model.do(deed)
                    self.check_hall(hall, model)

    def test_undo_back_to_the_first_people(self):
        for size in (1, 3, 12):
            hall, model = Hall(TWELVE[:size]), Model(TWELVE[:size])
            for _ in range(30):
                deed = drawn_deed(model.people)
                perform(hall, deed)
                model.do(deed)
            while model.log:
                self.assertIsNone(hall.undo())
                model.undo()
                self.check_hall(hall, model)
            self.assert_same(hall.people(), TWELVE[:size])
            self.assert_plain_error(NothingToUndo, hall.undo)
            self.check_hall(hall, model)

    def test_deeds_and_undo_mixed(self):
        hall, model = Hall(PEOPLE), Model(PEOPLE)
        for _ in range(150):
            if model.log and RANDOM.random() < 0.4:
                hall.undo()
                model.undo()
            else:
                deed = drawn_deed(model.people)
                perform(hall, deed)
                model.do(deed)
            self.check_hall(hall, model)

    def test_all_deeds_at_once(self):
        for size in (1, 3, 12):
            for many in (0, 1, 2, 20):
                hall, model = Hall(TWELVE[:size]), Model(TWELVE[:size])
                deeds = []
                for _ in range(many):
                    deeds.append(drawn_deed(model.people))
                    model.do(deeds[-1])
                self.assertIsNone(hall.do_all(tuple(deeds)))
                self.check_hall(hall, model)
                for _ in range(many):
                    hall.undo()
                    model.undo()
                    self.check_hall(hall, model)
                self.assert_plain_error(NothingToUndo, hall.undo)

    def test_results_are_tuples_that_stay_as_they_are(self):
        hall = Hall(PEOPLE)
        before = (hall.names(), hall.heights(), hall.people(), hall.log())
        hall.run(("S",))
        hall.leave("ann")
        self.assertEqual(before, (("ann", "bob", "cy"), (170, 180, 160), PEOPLE, ()))
        for value in (hall.names(), hall.heights(), hall.people(), hall.log()):
            self.assertIs(type(value), tuple)

    def test_known_deeds(self):
        hall = Hall(PEOPLE)
        hall.run(program=("S",))
        self.assert_same(hall.names(), ("bob", "ann", "cy"))
        hall.enter(height=175, name="dee")
        hall.leave(name="bob")
        self.assert_same(hall.people(), (("ann", 170), ("cy", 160), ("dee", 175)))
        self.assert_same(hall.log(), (("run", ("S",)), ("enter", "dee", 175), ("leave", "bob")))

    def test_enter_again(self):
        hall = Hall(PEOPLE)
        hall.leave("ann")
        hall.enter("ann", 160 + 10)
        self.assert_same(hall.names(), ("bob", "cy", "ann"))
        hall.leave("bob")
        hall.enter("dee", 180)
        self.assert_same(hall.heights(), (160, 170, 180))

    def test_equal_halls(self):
        hall = Hall(PEOPLE)
        other = Hall(PEOPLE[::-1])
        self.assertIs(hall == Hall(PEOPLE), True)
        self.assertIs(hall == other, False)
        self.assertIs(hall != other, True)
        self.assertIs(hall == Hall(PEOPLE[:2]), False)
        self.assertIs(hall == Hall(PEOPLE[:2] + (("cy", 161),)), False)
        self.assertIs(hall == Hall(PEOPLE[:2] + (("dee", 160),)), False)
        other.run((("repeat", 5, ("S",)),))
        hall.run((("repeat", 7, ("S",)),))
        self.assertIs(hall == other, True)
        for value in (None, PEOPLE, hall.people(), "ann bob cy", 3, True, str(hall), repr(hall), [], object()):
            self.assertIs(hall == value, False)
            self.assertIs(hall != value, True)

    def test_halls_do_not_share_anything(self):
        one, two = Hall(PEOPLE), Hall(PEOPLE)
        one.run(("S",))
        one.leave("ann")
        self.assert_same(two.people(), PEOPLE)
        self.assert_same(two.log(), ())


class People(PromiseCase):
    def test_errors(self):
        for people, index in WRONG_PEOPLE:
            self.assert_error(InvalidPeople, "index", index, Hall, people)
            self.assert_error(InvalidPeople, "index", index, Hall, people=people)
            self.assert_error(InvalidPeople, "index", index, replay, people, ())

    def test_one_and_twelve(self):
        self.assertEqual(len(Hall((("a", 999),))), 1)
        self.assertEqual(len(Hall(TWELVE)), 12)


class Methods(PromiseCase):
    def refuse(self, hall, error, attribute, value, call, *values, **named):
        """The method raises this error, and the hall is as it was."""
        before = told(hall)
        if attribute is None:
            self.assert_plain_error(error, call, *values, **named)
        else:
            self.assert_error(error, attribute, value, call, *values, **named)
        self.assertEqual(told(hall), before)

    def test_run(self):
        hall = Hall(PEOPLE)
        hall.run(("S",))
        for program, index in WRONG_PROGRAMS:
            self.refuse(hall, InvalidProgram, "index", index, hall.run, program)
        for seats in ((2, 2), (0, 4), (12, 0), (4, 8)):
            for program in ((("desk", *seats),), ("S", ("repeat", MANY, (("desk", *seats),)))):
                self.refuse(hall, TooManySeats, "seats", sum(seats), hall.run, program)
        self.refuse(hall, TooManySeats, "seats", 5, hall.run, (("desk", 2, 2), ("desk", 1, 4), ("desk", 0, 0)))
        self.refuse(hall, InvalidProgram, "index", 1, hall.run, (("desk", 2, 2), ("desk", 7, 7)))
        hall.run((("desk", 1, 2),))

    def test_enter(self):
        hall = Hall(PEOPLE)
        hall.enter("dee", 175)
        for name in WRONG_NAMES:
            self.refuse(hall, InvalidName, "name", name, hall.enter, name, 200)
            self.refuse(hall, InvalidName, "name", name, hall.enter, height=None, name=name)
            self.refuse(hall, InvalidName, "name", name, hall.enter, name, 175)
        for name in ("ann", "bob", "cy", "dee"):
            self.refuse(hall, NameTaken, "name", name, hall.enter, name, 200)
            self.refuse(hall, NameTaken, "name", name, hall.enter, name, 0)
            self.refuse(hall, NameTaken, "name", name, hall.enter, name, 175)
            self.refuse(hall, NameTaken, "name", name, hall.enter, name, Odd())
        for height in WRONG_PERSON_HEIGHTS:
            self.refuse(hall, InvalidHeight, "height", height, hall.enter, "eve", height)
        for height in (170, 180, 160, 175):
            self.refuse(hall, HeightTaken, "height", height, hall.enter, "eve", height)
            self.refuse(hall, HeightTaken, "height", height, hall.enter, height=height, name="eve")
        for height in (1, 999):
            hall.enter("eve", height)
            hall.undo()

    def test_enter_when_there_are_twelve(self):
        hall = Hall(TWELVE)
        self.refuse(hall, TooManyPeople, "count", 12, hall.enter, "new", 2)
        self.refuse(hall, HeightTaken, "height", 999, hall.enter, "new", 999)
        self.refuse(hall, InvalidHeight, "height", 1000, hall.enter, "new", 1000)
        self.refuse(hall, NameTaken, "name", "cy", hall.enter, "cy", 2)
        self.refuse(hall, InvalidName, "name", "New", hall.enter, "New", 2)
        hall.leave("cy")
        hall.enter("new", 2)
        self.refuse(hall, TooManyPeople, "count", 12, hall.enter, "cy", 3)

    def test_leave(self):
        hall = Hall(PEOPLE)
        for name in WRONG_NAMES + ("eve", "an", "annn"):
            self.refuse(hall, UnknownName, "name", name, hall.leave, name)
            self.refuse(hall, UnknownName, "name", name, hall.leave, name=name)
        hall.leave("bob")
        self.refuse(hall, UnknownName, "name", "bob", hall.leave, "bob")
        hall.leave("cy")
        self.refuse(hall, LastPerson, None, None, hall.leave, "ann")
        self.refuse(hall, UnknownName, "name", "cy", hall.leave, "cy")

    def test_index_of(self):
        hall = Hall(PEOPLE)
        for name in WRONG_NAMES + ("eve", "an", "annn"):
            self.refuse(hall, UnknownName, "name", name, hall.index_of, name)
            self.refuse(hall, UnknownName, "name", name, hall.index_of, name=name)

    def test_two_thousand_deeds_and_one_more(self):
        hall = Hall(PEOPLE)
        for _ in range(1999):
            hall.run(("T",))
        hall.enter("dee", 175)
        self.assertEqual(len(hall.log()), 2000)
        self.refuse(hall, TooManyDeeds, "count", 2000, hall.run, ("S",))
        self.refuse(hall, TooManyDeeds, "count", 2000, hall.run, ())
        self.refuse(hall, TooManyDeeds, "count", 2000, hall.enter, "eve", 176)
        self.refuse(hall, TooManyDeeds, "count", 2000, hall.leave, "ann")
        self.refuse(hall, TooManyDeeds, "count", 2000, hall.do_all, (("run", ()),))
        self.assertIsNone(hall.do_all(()))
        # Any other error comes first.
        self.refuse(hall, InvalidProgram, "index", None, hall.run, None)
        self.refuse(hall, TooManySeats, "seats", 12, hall.run, (("desk", 6, 6),))
        self.refuse(hall, NameTaken, "name", "ann", hall.enter, "ann", 176)
        self.refuse(hall, HeightTaken, "height", 175, hall.enter, "eve", 175)
        self.refuse(hall, UnknownName, "name", "eve", hall.leave, "eve")
        self.refuse(hall, InvalidDeed, "index", 1, hall.do_all, (("run", ()), ("run",)))
        hall.undo()
        hall.run(("S",))
        self.refuse(hall, TooManyDeeds, "count", 2000, hall.run, ("S",))
        self.assertEqual(len(hall.log()), 2000)

    def test_a_full_log_and_other_limits(self):
        hall = Hall(TWELVE)
        hall.do_all((("run", ("S",)),) * 2000)
        self.refuse(hall, TooManyPeople, "count", 12, hall.enter, "new", 2)
        hall = Hall(PEOPLE[:1])
        hall.do_all((("run", ("S",)),) * 2000)
        self.refuse(hall, LastPerson, None, None, hall.leave, "ann")
        self.refuse(hall, TooManyDeeds, "count", 2000, hall.enter, "new", 2)

    def test_too_many_deeds_at_once(self):
        hall = Hall(PEOPLE)
        hall.run(("S",))
        self.refuse(hall, TooManyDeeds, "count", 2000, hall.do_all, (("run", ("T",)),) * 2000)
        hall.do_all((("run", ("T",)),) * 1999)
        self.assertEqual(len(hall.log()), 2000)

    def test_undo(self):
        hall = Hall(PEOPLE)
        self.refuse(hall, NothingToUndo, None, None, hall.undo)
        hall.run(())
        hall.undo()
        self.refuse(hall, NothingToUndo, None, None, hall.undo)


class WatchError(Exception):
    pass


class DoAll(PromiseCase):
    DEEDS = (
        ("run", ("S",)), ("enter", "dee", 175), ("leave", "cy"), ("run", (("repeat", MANY, ("ST",)),)), ("run", ()),
    )

    def refuse(self, hall, error, attribute, value, deeds, **named):
        before = told(hall)
        self.assert_error(error, attribute, value, hall.do_all, deeds, **named)
        self.assertEqual(told(hall), before)

    def test_no_tuple(self):
        hall = Hall(PEOPLE)
        hall.run(("S",))
        for deeds in (
            None, True, 0, "", "run", [], [("run", ())], {}, {("run", ()): 1}, range(0), len, Odd(), Agreeable(), b"",
        ):
            self.refuse(hall, InvalidDeed, "index", None, deeds)
            self.refuse(hall, InvalidDeed, "index", None, deeds, watch=self.fail)

    def test_elements_that_are_no_deeds_at_each_index(self):
        hall = Hall(PEOPLE)
        hall.run(("S",))
        for deed in WRONG_DEEDS:
            for at in range(len(self.DEEDS) + 1):
                deeds = self.DEEDS[:at] + (deed,) + self.DEEDS[at:]
                self.refuse(hall, InvalidDeed, "index", at, deeds, watch=self.fail)
                self.refuse(hall, InvalidDeed, "index", at, deeds + (deed,))
        self.refuse(hall, InvalidDeed, "index", 0, ("run", ()))
        self.refuse(hall, InvalidDeed, "index", 0, ("leave", "ann"))

    def test_no_deed_comes_ahead_of_what_cannot_be_done(self):
        hall = Hall(PEOPLE)
        for deed, _, _, _ in HOPELESS:
            self.refuse(hall, InvalidDeed, "index", 1, (deed, ("run",)))
            self.refuse(hall, InvalidDeed, "index", 2, (deed, deed, Odd(), deed))

    def test_a_deed_that_cannot_be_done_behind_deeds_that_can(self):
        for deed, error, attribute, value in HOPELESS:
            for at in range(4):
                # Deeds behind which everything of the list is still wrong.
                deeds = (("run", ("S",)), ("enter", "dees", 175), ("run", ("TT", ("desk", 1, 1))))[:at]
                hall = Hall(PEOPLE)
                hall.run(("T",))
                self.refuse(hall, error, attribute, value, deeds + (deed, ("leave", "nobody")))
                calls = []
                self.refuse(hall, error, attribute, value, deeds + (deed,), watch=lambda hall, at: calls.append(at))
                self.assertEqual(calls, list(range(at)))

    def test_what_depends_on_earlier_deeds(self):
        hall = Hall(PEOPLE)
        self.refuse(hall, NameTaken, "name", "dee", (("enter", "dee", 175), ("enter", "dee", 176)))
        self.refuse(hall, HeightTaken, "height", 175, (("enter", "dee", 175), ("enter", "eve", 175)))
        self.refuse(hall, UnknownName, "name", "ann", (("leave", "ann"), ("leave", "ann")))
        self.refuse(hall, TooManySeats, "seats", 3, (("leave", "ann"), ("run", (("desk", 1, 2),))))
        before = told(hall)
        self.assert_plain_error(LastPerson, hall.do_all, (("leave", "ann"), ("leave", "cy"), ("leave", "bob")))
        self.assertEqual(told(hall), before)
        twelve = Hall(TWELVE[:11])
        self.refuse(twelve, TooManyPeople, "count", 12, (("enter", "new", 2), ("enter", "newer", 3)))
        hall.do_all((("leave", "ann"), ("enter", "ann", 180 - 5), ("enter", "eve", 170)))
        self.assert_same(hall.names(), ("bob", "cy", "ann", "eve"))

    def test_watch_left_out_and_none(self):
        one, two, three, four = Hall(PEOPLE), Hall(PEOPLE), Hall(PEOPLE), Hall(PEOPLE)
        self.assertIsNone(one.do_all(self.DEEDS))
        self.assertIsNone(two.do_all(self.DEEDS, watch=None))
        self.assertIsNone(three.do_all(watch=None, deeds=self.DEEDS))
        for deed in self.DEEDS:
            perform(four, deed)
        self.assert_same(one.log(), self.DEEDS)
        for hall in (two, three, four):
            self.assertEqual(told(hall), told(one))

    def test_watch_by_name_only(self):
        with self.assertRaises(TypeError):
            Hall(PEOPLE).do_all((), None)

    def test_watch_reads_the_hall(self):
        hall, other = Hall(PEOPLE), Hall(PEOPLE)
        hall.run(("T",))
        other.run(("T",))
        seen = []

        def watch(given, index):
            self.assertIs(given, hall)
            self.assertIs(given.busy, True)
            self.assertIs(type(index), int)
            perform(other, self.DEEDS[index])
            self.assertEqual(told(given)[:8], told(other)[:8])
            self.assertTrue(given == other)
            seen.append(index)

        self.assertIs(hall.busy, False)
        self.assertIsNone(hall.do_all(self.DEEDS, watch=watch))
        self.assertIs(hall.busy, False)
        self.assertEqual(seen, list(range(len(self.DEEDS))))
        self.assertEqual(told(hall), told(other))

    def test_watch_is_not_called_without_deeds(self):
        hall = Hall(PEOPLE)
        self.assertIsNone(hall.do_all((), watch=self.fail))
        self.assert_same(hall.log(), ())

    def test_watch_raises_an_error(self):
        for error in (WatchError(), KeyError("x"), UnknownName("x"), InvalidDeed(7), StopIteration(), SystemExit(),
                      KeyboardInterrupt(), AssertionError(), NothingToUndo()):
            for at in range(len(self.DEEDS)):
                hall = Hall(PEOPLE)
                hall.do_all((("run", ("TS",)), ("enter", "eve", 150)))
                before = told(hall)

                def watch(given, index):
                    self.assertIs(given.busy, True)
                    if index == at:
                        raise error

                with self.assertRaises(type(error)) as caught:
                    hall.do_all(self.DEEDS, watch=watch)
                self.assertIs(caught.exception, error)
                self.assertEqual(told(hall), before)
                self.assertIs(hall.busy, False)
                hall.undo()
                self.assert_same(hall.log(), (("run", ("TS",)),))

    def test_watch_gets_an_error_of_the_hall_and_catches_it(self):
        hall = Hall(PEOPLE)

        def watch(given, index):
            before = told(given)
            self.assert_error(UnknownName, "name", "nobody", given.leave, "nobody")
            self.assert_error(UnknownName, "name", "nobody", given.do_all, (("leave", "nobody"),))
            self.assertEqual(told(given), before)
            self.assertIs(given.busy, True)

        hall.do_all(self.DEEDS, watch=watch)
        self.assert_same(hall.log(), self.DEEDS)
        self.assertIs(hall.busy, False)

    def test_watch_uses_other_halls(self):
        hall, other = Hall(PEOPLE), Hall(PEOPLE)
        hall.do_all(self.DEEDS, watch=lambda given, index: other.do_all((self.DEEDS[index],), watch=self.is_busy))
        self.assertEqual(told(hall), told(other))

    def is_busy(self, hall, index):
        self.assertIs(hall.busy, True)

    def test_settled_after_an_error(self):
        hall = Hall(PEOPLE)
        hall.run(("ST",))
        self.assertIs(hall.settled(), True)
        self.refuse(hall, UnknownName, "name", "x", (("enter", "dee", 175), ("leave", "x")))
        self.assertIs(hall.settled(), True)
        hall.enter("dee", 175)
        self.refuse(hall, UnknownName, "name", "x", (("run", ("STS",)), ("leave", "x")))
        self.assertIs(hall.settled(), False)


class Settled(PromiseCase):
    def test_one_person(self):
        hall = Hall(PEOPLE[:1])
        self.assertIs(hall.settled(), True)
        hall.enter("dee", 175)
        self.assertIs(hall.settled(), False)
        hall.leave("ann")
        self.assertIs(hall.settled(), True)

    def test_few_and_many_passes(self):
        for size in range(1, 13):
            for passes in range(14):
                hall = Hall(TWELVE[:size])
                hall.run(("S" * passes,) if passes else ())
                self.assertIs(hall.settled(), passes >= size - 1)

    def test_several_runs_together(self):
        hall = Hall(TWELVE[:6])
        for count in range(1, 8):
            hall.run(("T",))
            self.assertIs(hall.settled(), count >= 5)
            hall.run(())
            self.assertIs(hall.settled(), count >= 5)

    def test_desks_and_repeats(self):
        for program, wanted in (
            ((("desk", 2, 3),), True), ((("desk", 2, 2),), False), ((("desk", 0, 0), "SSSS"), False),
            ((("repeat", 5, ("T",)),), True), ((("repeat", 4, ("T",)),), False), ((("repeat", MANY, ("T",)),), True),
            ((("repeat", MANY, ()),), False), (repeated(MANY, (("desk", 0, 0),), 4), False),
            (repeated(MANY, ("S",), 4), True), (("S", ("repeat", 2, ("TS",))), True),
        ):
            hall = Hall(TWELVE[:6])
            hall.run(program)
            self.assertIs(hall.settled(), wanted)

    def test_enter_and_leave(self):
        hall = Hall(PEOPLE)
        self.assertIs(hall.settled(), False)
        hall.run(("ST",))
        self.assertIs(hall.settled(), True)
        hall.enter("dee", 175)
        self.assertIs(hall.settled(), False)
        hall.run(("ST",))
        self.assertIs(hall.settled(), False)
        hall.run(("S",))
        self.assertIs(hall.settled(), True)
        hall.leave("ann")
        self.assertIs(hall.settled(), False)
        hall.leave("bob")
        self.assertIs(hall.settled(), False)
        hall.leave("dee")
        self.assertIs(hall.settled(), True)

    def test_after_undo(self):
        hall = Hall(PEOPLE)
        hall.run(("ST",))
        hall.enter("dee", 175)
        hall.run((("repeat", MANY, ("S",)),))
        self.assertIs(hall.settled(), True)
        hall.undo()
        self.assertIs(hall.settled(), False)
        hall.undo()
        self.assertIs(hall.settled(), True)
        hall.undo()
        self.assertIs(hall.settled(), False)

    def test_what_it_means(self):
        """In a settled hall the order of the people does not depend on their order before the passes."""
        for size in range(1, 5):
            for program in (("S",), ("ST",), ("TTS",), (("desk", 1, 0), "T"), (("repeat", MANY, ("TTS",)),)):
                orders = set()
                for _ in range(40):
                    hall = Hall(tuple(RANDOM.sample(TWELVE[:size], size)))
                    hall.run(program)
                    orders.add(hall.names())
                if hall.settled():
                    self.assertEqual(len(orders), 1)
                else:
                    self.assertGreater(len(orders), 1)


class Replay(PromiseCase):
    def drawn_log(self, people, many):
        model = Model(people)
        for _ in range(many):
            model.do(drawn_deed(model.people))
        return tuple(model.log)

    def test_the_log_of_a_hall(self):
        for size in (1, 3, 12):
            for many in (0, 1, 5, 30):
                log = self.drawn_log(TWELVE[:size], many)
                hall = Hall(TWELVE[:size])
                for deed in log:
                    perform(hall, deed)
                found = replay(TWELVE[:size], hall.log())
                self.assertIs(type(found), Hall)
                self.assertEqual(told(found), told(hall))
                self.assertIsNot(found, hall)
                for _ in log:
                    found.undo()
                self.assert_same(found.people(), TWELVE[:size])
                self.assertEqual(told(replay(log=log, people=TWELVE[:size])), told(hall))

    def test_one_element_wrong_at_each_index(self):
        log = (("run", ("S",)), ("enter", "dees", 175), ("run", ("TT", ("desk", 1, 1))))
        for at in range(4):
            for deed in WRONG_DEEDS + tuple(hopeless[0] for hopeless in HOPELESS):
                self.assert_error(InvalidDeed, "index", at, replay, PEOPLE, log[:at] + (deed,) + log[at:])
                self.assert_error(InvalidDeed, "index", at, replay, PEOPLE, log[:at] + (deed,) + (Odd(), deed))

    def test_the_first_one_counts_whatever_is_wrong(self):
        self.assert_error(InvalidDeed, "index", 0, replay, PEOPLE, (("leave", "nobody"), ("run",)))
        self.assert_error(InvalidDeed, "index", 1, replay, PEOPLE, (("leave", "ann"), ("leave", "ann"), None))
        self.assert_error(InvalidDeed, "index", 2, replay, PEOPLE, tuple(("leave", name) for name, _ in PEOPLE))
        self.assert_error(InvalidDeed, "index", 1, replay, TWELVE[:11], (("enter", "new", 2), ("enter", "newer", 3)))

    def test_no_tuple(self):
        for log in (None, True, 0, "", "run", [], [("run", ())], {}, range(0), len, Odd(), Agreeable(), b""):
            self.assert_error(InvalidDeed, "index", None, replay, PEOPLE, log)

    def test_order(self):
        for log, index in (([], None), ((("run",),), 0), ((("leave", "nobody"),), 0), (Odd(), None)):
            self.assert_order(
                replay,
                ("people", PEOPLE, PEOPLE + (None,), InvalidPeople, "index", 3),
                ("log", (), log, InvalidDeed, "index", index),
            )

    def test_two_thousand_deeds_and_one_more(self):
        log = (("run", ("S",)), ("run", ("T",))) * 1000
        self.assertEqual(replay(PEOPLE, log).log(), log)
        for last in (("run", ()), ("leave", "ann"), ("leave", "nobody"), None, Odd()):
            self.assert_error(InvalidDeed, "index", 2000, replay, PEOPLE, log + (last,))
        self.assert_error(InvalidDeed, "index", 2000, replay, PEOPLE, log + log)

    def test_equal_calls_return_equal_results(self):
        log = self.drawn_log(PEOPLE, 10)
        self.assertEqual(told(replay(PEOPLE, log)), told(replay(tuple(list(PEOPLE)), tuple(list(log)))))


class Families(PromiseCase):
    def test_errors_of_the_hall(self):
        hall = Hall(PEOPLE)
        for family, call, values in (
            (PassError, hall.run, (None,)), (PassError, hall.enter, ("", 1)), (FindError, hall.enter, ("ann", 1)),
            (FindError, hall.leave, ("x",)), (FindError, hall.undo, ()), (LimitError, hall.run, ((("desk", 4, 4),),)),
        ):
            with self.assertRaises(family):
                call(*values)


if __name__ == "__main__":
    unittest.main()
