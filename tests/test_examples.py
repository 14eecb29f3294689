"""The examples of the document's interface, as it prints them."""

import unittest

from example_runner import outcome

ROWS = (
    """
>>> from lastpasses.rows import is_row
>>> [is_row((170, 180, 165)), is_row([170, 180]), is_row((170, 170))]
[True, False, False]
""",
    """
>>> from lastpasses.rows import ranks
>>> ranks((20, 40, 10, 30))
(2, 4, 1, 3)
""",
    """
>>> from lastpasses.rows import ranks
>>> ranks((20, 40, True, 20))
raises InvalidRow(index=2)
""",
    """
>>> from lastpasses.rows import signs
>>> signs((2, 4, 1, 3), 3)
'0101'
""",
)

PASSES = (
    """
>>> from lastpasses.passes import single_pass
>>> [single_pass((2, 4, 1, 3), 'T'), single_pass((2, 4, 1, 3), 'S')]
[(2, 1, 3, 4), (4, 2, 3, 1)]
""",
    """
>>> from lastpasses.passes import single_pass
>>> single_pass((2, 4), 't')
raises InvalidKind(kind='t')
""",
    """
>>> from lastpasses.passes import sitters
>>> sitters((2, 4, 1, 3), 'S')
(2, 1)
""",
    """
>>> from lastpasses.passes import after
>>> after((2, 4, 1, 3), 'ST')
(2, 3, 1, 4)
""",
    """
>>> from lastpasses.passes import after
>>> after((2, 4, 1, 3), 'STs')
raises InvalidWord(index=2)
""",
)

DESKS = (
    """
>>> from lastpasses.desks import desk
>>> desk((3, 1, 4, 2), 1, 1)
(3, 2, 1, 4)
""",
    """
>>> from lastpasses.desks import desk
>>> desk((3, 1, 4, 2), 3, 2)
raises TooManySeats(seats=5)
""",
    """
>>> from lastpasses.desks import departures
>>> departures((3, 1, 4, 2), 1, 1)
((3, 3), (4, 2), (4, 1), (4, 4))
""",
    """
>>> from lastpasses.desks import split_word
>>> [split_word('SSTST', 4), split_word('SSTST', 2)]
[((2, 1), (1, 1)), ((2, 0), (0, 1), (1, 1))]
""",
)

PROGRAMS = (
    """
>>> from lastpasses.programs import is_program
>>> [is_program(()), is_program(('S', ('repeat', 0, ()))), is_program(('S', ('repeat', 2, ())))]
[True, False, True]
""",
    """
>>> from lastpasses.programs import count_passes
>>> program = ('SST', ('desk', 1, 2), ('repeat', 1000, ('T', ('desk', 1, 0))))
>>> count_passes(program)
(1003, 1003)
""",
    """
>>> from lastpasses.programs import last_passes
>>> program = ('SST', ('desk', 1, 2), ('repeat', 1000, ('T', ('desk', 1, 0))))
>>> last_passes(program, count=5)
'STSTS'
""",
    """
>>> from lastpasses.programs import largest_desk
>>> program = ('SST', ('desk', 1, 2), ('repeat', 1000, ('T', ('desk', 1, 0))))
>>> largest_desk(program)
3
""",
    """
>>> from lastpasses.programs import run
>>> program = ('SST', ('desk', 1, 2), ('repeat', 1000, ('T', ('desk', 1, 0))))
>>> run((2, 4, 1, 3), program)
(3, 2, 4, 1)
""",
    """
>>> from lastpasses.programs import run
>>> run((2, 4), ('T', ('desk', 1, 2)))
raises TooManySeats(seats=3)
""",
    """
>>> from lastpasses.programs import run
>>> run((2, 4), ('T', ('repeat', 0, ())))
raises InvalidProgram(index=1)
""",
)

NOTATION = (
    """
>>> from lastpasses.notation import format_program
>>> program = ('SST', ('desk', 1, 2), ('repeat', 1000, ('T', ('desk', 1, 0))))
>>> format_program(program)
'SST desk:1:2 ( T desk:1:0 )x1000'
""",
    """
>>> from lastpasses.notation import parse_program
>>> parse_program('T ( )x3 desk:0:2')
('T', ('repeat', 3, ()), ('desk', 0, 2))
""",
    """
>>> from lastpasses.notation import parse_program
>>> parse_program('T  S')
raises InvalidText(text='T  S')
""",
)

EQUALITY = (
    """
>>> from lastpasses.equality import shortest
>>> [shortest('TTSST', 4), shortest('TT', 4)]
['SST', 'TT']
""",
    """
>>> from lastpasses.equality import same
>>> [same('TTSST', 'SSST', 4), same('T', 'TT', 3)]
[True, False]
""",
    """
>>> from lastpasses.equality import difference
>>> from lastpasses.passes import after
>>> row = difference('ST', 'TS', 3)
>>> [difference('TST', 'SST', 3), after(row, 'ST') == after(row, 'TS')]
[None, False]
""",
    """
>>> from lastpasses.equality import is_constant
>>> [is_constant('ST', 3), is_constant('ST', 4)]
[True, False]
""",
    """
>>> from lastpasses.equality import word_count
>>> word_count(4)
15
""",
    """
>>> from lastpasses.equality import word_at
>>> [word_at(3, 0), word_at(3, 2), word_at(3, 4)]
['', 'T', 'ST']
""",
    """
>>> from lastpasses.equality import number_of
>>> number_of('TST', 3)
4
""",
)

KEPT = (
    """
>>> from lastpasses.kept import kept
>>> kept((3, 5, 1, 4, 2), 2, 1)
(4, 3)
""",
)

FINALS = (
    """
>>> from lastpasses.finals import is_final
>>> [is_final((3, 2, 4, 1)), is_final((1, 3, 2, 4))]
[True, False]
""",
    """
>>> from lastpasses.finals import final_row
>>> final_row((1, 2, 3, 4), 'TSTS')
(3, 2, 4, 1)
""",
    """
>>> from lastpasses.finals import final_row
>>> final_row((1, 2, 3, 4), 'TS')
raises WordTooShort(length=2)
""",
    """
>>> from lastpasses.finals import final_word
>>> final_word((3, 2, 4, 1))
'STS'
""",
    """
>>> from lastpasses.finals import final_word
>>> final_word((1, 3, 2, 4))
raises NotFinal(index=2)
""",
    """
>>> from lastpasses.finals import place_counts
>>> place_counts(4, 2)
(3, 3, 2, 0)
""",
)

WISHES = (
    """
>>> from lastpasses.wishes import count_words
>>> [count_words((1, 2, 3, 4), ((2, 1),)), count_words((1, 2, 3, 4), ((2, 1), (4, 2)))]
[3, 1]
""",
    """
>>> from lastpasses.wishes import first_word
>>> [first_word((1, 2, 3, 4), ((2, 1),)), first_word((1, 2, 3, 4), ((1, 1), (4, 2)))]
['SST', None]
""",
)

REACH = (
    """
>>> from lastpasses.reach import reachable
>>> reachable((1, 2, 3))
((1, 2, 3), (2, 1, 3), (2, 3, 1), (3, 2, 1))
""",
    """
>>> from lastpasses.reach import reachable
>>> reachable((1, 2, 3), passes=1)
((1, 2, 3), (2, 3, 1))
""",
    """
>>> from lastpasses.reach import word_to
>>> [word_to((2, 4, 1, 3), (4, 2, 3, 1)), word_to((1, 2, 3), (1, 3, 2))]
['S', None]
""",
    """
>>> from lastpasses.reach import word_to
>>> word_to((1, 2, 3), (1, 2, 4))
raises OtherPersons
""",
    """
>>> from lastpasses.reach import mismatches
>>> [mismatches((1, 2, 3, 4), (1, 3, 2, 4)), mismatches((1, 2, 3), (1, 2, 3))]
[((0, 1), (1, 1)), ()]
""",
)

ORIGINS = (
    """
>>> from lastpasses.origins import origins
>>> [origins((2, 1, 3), 'T'), origins((2, 1, 3), 'S')]
[((2, 3, 1), (3, 2, 1)), ()]
""",
    """
>>> from lastpasses.origins import count_origins
>>> [count_origins((2, 1, 3), 'T', 1), count_origins((1, 2, 3), 'T', 2)]
[2, 6]
""",
)

OBSERVATIONS = (
    """
>>> from lastpasses.observations import comparisons
>>> comparisons((('ann', 'bob', 'cy'), 'T', ('ann', 'cy', 'bob')))
(('ann', 'bob'), ('cy', 'bob'))
""",
    """
>>> from lastpasses.observations import comparisons
>>> comparisons((('ann', 'bob', 'cy'), 'T', ('cy', 'bob', 'ann')))
None
""",
    """
>>> from lastpasses.observations import find_order
>>> first = (('ann', 'bob', 'cy'), 'T', ('ann', 'cy', 'bob'))
>>> second = (('cy', 'ann', 'bob'), 'S', ('ann', 'bob', 'cy'))
>>> third = (('ann', 'bob', 'cy'), 'S', ('ann', 'cy', 'bob'))
>>> [find_order((first,)), find_order((first, second)), find_order((first, third))]
[('ann', 'cy', 'bob'), ('cy', 'ann', 'bob'), None]
""",
    """
>>> from lastpasses.observations import count_orders
>>> records = ((('ann', 'bob', 'cy'), 'T', ('ann', 'cy', 'bob')),)
>>> count_orders(records)
2
""",
    """
>>> from lastpasses.observations import is_shorter
>>> records = ((('ann', 'bob', 'cy'), 'T', ('ann', 'cy', 'bob')),)
>>> [is_shorter(records, 'cy', 'bob'), is_shorter(records, 'ann', 'cy')]
[True, False]
""",
    """
>>> from lastpasses.observations import is_shorter
>>> records = ((('ann', 'bob', 'cy'), 'T', ('ann', 'cy', 'bob')),)
>>> is_shorter(records, 'ann', 'dee')
raises UnknownName(name='dee')
""",
    """
>>> from lastpasses.observations import possible_kinds
>>> pairs = ((('ann', 'bob'), ('bob', 'ann')), (('bob', 'ann'), ('ann', 'bob')))
>>> possible_kinds(pairs)
('ST', 'TS')
""",
)

PATTERNS = (
    """
>>> from lastpasses.patterns import count_readings
>>> [count_readings((2, 4, 1, 3), '??STS', (3, 2, 4, 1)), count_readings((2, 4, 1, 3), 'T', (4, 2, 3, 1))]
[4, 0]
""",
    """
>>> from lastpasses.patterns import first_reading
>>> [first_reading((2, 4, 1, 3), '?T??', (3, 2, 4, 1)), first_reading((2, 4, 1, 3), '?', (4, 2, 3, 1))]
[None, 'S']
""",
    """
>>> from lastpasses.patterns import first_reading
>>> first_reading((2, 4), 'S*', (4, 2))
raises InvalidPattern(index=1)
""",
)

CHANCES = (
    """
>>> from lastpasses.chances import chance
>>> [chance((2, 4, 1, 3), (1, 3), 3, (3, 2, 4, 1)), chance((2, 4, 1, 3), (1, 3), 10 ** 30, (3, 2, 4, 1))]
[(4, 27), (4, 27)]
""",
    """
>>> from lastpasses.chances import mean_index
>>> mean_index((20, 10), (1, 3), 1, 10)
(2, 3)
""",
    """
>>> from lastpasses.chances import mean_index
>>> mean_index((20, 10), (2, 4), 1, 10)
raises InvalidShare(share=(2, 4))
""",
)

HALL = (
    """
>>> from lastpasses.hall import Hall
>>> hall = Hall((('ann', 170), ('bob', 180), ('cy', 160)))
>>> hall.run(('S',))
>>> [hall.names(), hall.heights(), len(hall), str(hall), repr(hall)]
[('bob', 'ann', 'cy'), (180, 170, 160), 3, 'bob ann cy', 'Hall(3)']
""",
    """
>>> from lastpasses.hall import Hall
>>> hall = Hall((('ann', 170), ('bob', 180), ('cy', 160)))
>>> hall.enter('dee', 175)
>>> hall.leave('bob')
>>> [hall.people(), hall.log()]
[(('ann', 170), ('cy', 160), ('dee', 175)), (('enter', 'dee', 175), ('leave', 'bob'))]
""",
    """
>>> from lastpasses.hall import Hall
>>> hall = Hall((('ann', 170), ('bob', 180), ('cy', 160)))
>>> hall.enter('dee', 160)
raises HeightTaken(height=160)
""",
    """
>>> from lastpasses.hall import Hall
>>> hall = Hall((('ann', 170), ('bob', 180), ('cy', 160)))
>>> hall.do_all((('run', ('T',)), ('leave', 'eve')))
raises UnknownName(name='eve')
""",
    """
>>> from lastpasses.hall import Hall
>>> hall = Hall((('ann', 170), ('bob', 180), ('cy', 160)))
>>> hall.do_all((('run', ('S',)), ('leave', 'cy')))
>>> hall.undo()
>>> [hall.names(), hall.index_of('cy')]
[('bob', 'ann', 'cy'), 2]
""",
    """
>>> from lastpasses.hall import Hall
>>> hall = Hall((('ann', 170), ('bob', 180), ('cy', 160)))
>>> before = hall.settled()
>>> hall.run(('S', ('repeat', 5, ('T',))))
>>> [before, hall.settled()]
[False, True]
""",
    """
>>> from lastpasses.hall import replay
>>> replay((('ann', 170), ('bob', 180)), (('run', ('S',)), ('enter', 'cy', 175))).names()
('bob', 'ann', 'cy')
""",
)

CHECKER = (
    """
>>> from lastpasses.checker import check
>>> [check(('path', (2, 4, 1, 3), (4, 2, 3, 1)), 'S'), check(('path', (2, 4, 1, 3), (4, 2, 3, 1)), 'T'), check(('no path', (1, 2, 3), (1, 3, 2)), ((0, 1),))]
[True, False, True]
""",
)

PAPERS = (
    """
>>> from lastpasses.papers import path_paper
>>> path_paper((1, 2, 3), (1, 3, 2))
(('no path', (1, 2, 3), (1, 3, 2)), ((0, 1),))
""",
    """
>>> from lastpasses.papers import word_paper
>>> word_paper('TTSST', 'SSST', 4)
(('same', 4, 'TTSST', 'SSST'), None)
""",
    """
>>> from lastpasses.papers import order_paper
>>> from lastpasses.checker import check
>>> records = ((('ann', 'bob', 'cy'), 'T', ('ann', 'cy', 'bob')), (('ann', 'bob', 'cy'), 'S', ('ann', 'cy', 'bob')))
>>> claim, paper = order_paper(records)
>>> [claim[0], paper[0], check(claim, paper)]
['no order', 'cycle', True]
""",
    """
>>> from lastpasses.papers import place_paper
>>> place_paper((1, 2, 3, 4), ((1, 1), (4, 2)))
(('not placed', (1, 2, 3, 4), ((1, 1), (4, 2))), ((), (), (), ()))
""",
)

CONSOLE = (
    """
>>> from lastpasses.console import Console
>>> console = Console((('ann', 170), ('bob', 180)))
>>> [console.say('run S'), console.say('row'), console.say('settled'), console.say('word bob ann')]
['ok', 'bob ann', 'yes', '-']
""",
    """
>>> from lastpasses.console import Console
>>> Console((('ann', 170),)).say('walk')
raises InvalidCommand(line='walk')
""",
)


class Examples(unittest.TestCase):
    def run_examples(self, examples):
        for example in examples:
            with self.subTest(example=example):
                found, printed = outcome(example)
                self.assertEqual(found, printed)

    def test_rows(self):
        self.run_examples(ROWS)

    def test_passes(self):
        self.run_examples(PASSES)

    def test_desks(self):
        self.run_examples(DESKS)

    def test_programs(self):
        self.run_examples(PROGRAMS)

    def test_notation(self):
        self.run_examples(NOTATION)

    def test_equality(self):
        self.run_examples(EQUALITY)

    def test_kept(self):
        self.run_examples(KEPT)

    def test_finals(self):
        self.run_examples(FINALS)

    def test_wishes(self):
        self.run_examples(WISHES)

    def test_reach(self):
        self.run_examples(REACH)

    def test_origins(self):
        self.run_examples(ORIGINS)

    def test_observations(self):
        self.run_examples(OBSERVATIONS)

    def test_patterns(self):
        self.run_examples(PATTERNS)

    def test_chances(self):
        self.run_examples(CHANCES)

    def test_hall(self):
        self.run_examples(HALL)

    def test_checker(self):
        self.run_examples(CHECKER)

    def test_papers(self):
        self.run_examples(PAPERS)

    def test_console(self):
        self.run_examples(CONSOLE)


if __name__ == "__main__":
    unittest.main()
