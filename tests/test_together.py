"""The whole program together: a hall, its rows, its records and its papers."""

import random
import unittest

from lastpasses.checker import check
from lastpasses.console import Console
from lastpasses.desks import desk
from lastpasses.equality import shortest
from lastpasses.finals import final_row, is_final
from lastpasses.hall import Hall, replay
from lastpasses.notation import format_program
from lastpasses.observations import find_order, is_shorter, possible_kinds
from lastpasses.origins import origins
from lastpasses.papers import order_paper, path_paper, place_paper, word_paper
from lastpasses.passes import after
from lastpasses.patterns import count_readings, first_reading
from lastpasses.programs import last_passes, run
from lastpasses.reach import word_to
from common import PromiseCase
from sample_programs import PROGRAMS
from sample_records import NAMES

RANDOM = random.Random(61)

HEIGHTS = (170, 165, 180, 155, 190, 172, 171, 999, 1, 160, 181, 169)


def drawn_people(size):
    return tuple(zip(RANDOM.sample(NAMES, size), RANDOM.sample(HEIGHTS, size)))


def drawn_word(length):
    return "".join(RANDOM.choice("ST") for _ in range(length))


def watched(hall, deeds):
    """The names of the hall before the first deed and after each."""
    rows = [hall.names()]
    hall.do_all(deeds, watch=lambda given, index: rows.append(given.names()))
    return rows


class Rows(PromiseCase):
    def test_passes(self):
        for size in range(1, 13):
            hall = Hall(drawn_people(size))
            for length in (1, 2, size, 400):
                before, word = hall.heights(), drawn_word(length)
                hall.run((word,))
                self.assert_same(hall.heights(), after(before, word))

    def test_desks(self):
        for size in range(1, 13):
            hall = Hall(drawn_people(size))
            for shorts in range(size + 1):
                before = hall.heights()
                hall.run((("desk", shorts, size - shorts),))
                self.assert_same(hall.heights(), desk(before, shorts, size - shorts))

    def test_programs(self):
        for program in PROGRAMS:
            people = drawn_people(12)
            hall, console = Hall(people), Console(people)
            before = hall.heights()
            hall.run(program)
            self.assert_same(hall.heights(), run(before, program))
            self.assert_same(dict(hall.people()), {name: dict(people)[name] for name in hall.names()})
            self.assert_same(console.say(("run " + format_program(program)).strip(" ")), "ok")
            self.assert_same(console.say("row"), str(hall))

    def test_settled_halls(self):
        """The row of a settled hall is final, and read off its last passes."""
        for program in PROGRAMS:
            hall = Hall(drawn_people(12))
            hall.run(program)
            if hall.settled():
                self.assertTrue(is_final(hall.heights()))
                word = last_passes(program)
                self.assert_same(hall.heights(), final_row(tuple(sorted(hall.heights())), word))

    def test_origins(self):
        for size in range(1, 8):
            for kind in "ST":
                hall = Hall(drawn_people(size))
                before = hall.heights()
                hall.run((kind,))
                self.assertIn(before, origins(hall.heights(), kind))


class Records(PromiseCase):
    def test_watched_rows_have_an_order(self):
        for size in range(2, 13):
            for many in (1, 2, 7, 20):
                people = drawn_people(size)
                kinds = drawn_word(many)
                rows = watched(Hall(people), tuple(("run", (kind,)) for kind in kinds))
                records = tuple(zip(rows, kinds, rows[1:]))
                self.assertIsNotNone(find_order(records))
                claim, paper = order_paper(records)
                self.assertEqual(claim[0], "order")
                self.assertIs(check(claim, paper), True)
                by_height = tuple(name for name, _ in sorted(people, key=lambda person: person[1]))
                self.assertIs(check(claim, by_height), True)
                self.assertIn(kinds, possible_kinds(tuple(zip(rows, rows[1:]))))
                for one in by_height:
                    for other in by_height:
                        if is_shorter(records, one, other):
                            self.assertLess(by_height.index(one), by_height.index(other))

    def test_watched_rows_of_two_orders(self):
        met = set()
        for size in (3, 6, 12):
            for _ in range(10):
                people = drawn_people(size)
                others = tuple(zip(RANDOM.sample([name for name, _ in people], size), HEIGHTS))
                records = ()
                for hall in (Hall(people), Hall(others)):
                    rows = watched(hall, (("run", ("T",)), ("run", ("S",))))
                    records += tuple(zip(rows, "TS", rows[1:]))
                claim, paper = order_paper(records)
                self.assertIs(check(claim, paper), True)
                met.add(claim[0])
        self.assertIn("no order", met)


class Papers(PromiseCase):
    def test_what_the_hall_did(self):
        for size in range(1, 13):
            hall = Hall(drawn_people(size))
            for length in (0, 1, 2, size):
                before, word = hall.heights(), drawn_word(length)
                hall.run((word,) if word else ())
                claim, paper = path_paper(before, hall.heights())
                self.assert_same(claim, ("path", before, hall.heights()))
                self.assertIs(check(claim, paper), True)
                self.assertIs(check(claim, word), True)
                self.assertLessEqual(len(paper), len(word))
                self.assertIn(word_paper(word, paper, size)[0][0], ("same", "different"))
                self.assertEqual(count_readings(before, "?" * len(paper), hall.heights()), 1)
                self.assert_same(first_reading(before, "?" * len(paper), hall.heights()), paper)
                claim, paper = word_paper(word, shortest(word, size), size)
                self.assertEqual(claim[0], "same")
                self.assertIs(check(claim, paper), True)

    def test_places_of_settled_halls(self):
        for size in range(1, 13):
            hall = Hall(drawn_people(size))
            hall.run((("repeat", 10 ** 30, (drawn_word(size),)),))
            row = hall.heights()
            for many in range(size + 1):
                wishes = tuple((row[index], index) for index in sorted(RANDOM.sample(range(size), many)))
                claim, paper = place_paper(tuple(sorted(row)), wishes)
                self.assertEqual(claim[0], "placed")
                self.assertIs(check(claim, paper), True)

    def test_the_word_that_undoes_a_pass_if_there_is_one(self):
        for size in range(2, 13):
            people = drawn_people(size)
            hall, console = Hall(people), Console(people)
            hall.run(("S",))
            console.say("run S")
            row = tuple(height for _, height in people)
            word = word_to(hall.heights(), row)
            answer = console.say("word " + " ".join(name for name, _ in people))
            self.assert_same(answer, "never" if word is None else word or "-")
            claim, paper = path_paper(hall.heights(), row)
            self.assertEqual(claim[0], "no path" if word is None else "path")
            self.assertIs(check(claim, paper), True)


class Logs(PromiseCase):
    def test_a_console_a_hall_and_its_log(self):
        console, hall = Console((("ann", 170), ("bob", 180))), Hall((("ann", 170), ("bob", 180)))
        for line, deed in (
            ("run S", ("run", ("S",))), ("enter cy 175", ("enter", "cy", 175)), ("run", ("run", ())),
            ("run desk:1:1 ( T )x1000", ("run", (("desk", 1, 1), ("repeat", 1000, ("T",))))),
            ("enter dee 1", ("enter", "dee", 1)), ("leave ann", ("leave", "ann")), ("run TTS", ("run", ("TTS",))),
        ):
            self.assert_same(console.say(line), "ok")
            hall.do_all((deed,))
            self.assert_same(console.say("row"), str(hall))
            self.assert_same(console.say("settled"), "yes" if hall.settled() else "no")
            self.assert_same(console.say("deeds"), str(len(hall.log())))
            again = replay((("ann", 170), ("bob", 180)), hall.log())
            self.assertTrue(again == hall)
            self.assert_same(again.log(), hall.log())
            self.assertIs(again.settled(), hall.settled())


if __name__ == "__main__":
    unittest.main()
