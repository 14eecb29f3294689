"""The main promise: passes, words, desks, programs, final rows, paths, and the evidence for them."""

import itertools
import unittest

from lastpasses.checker import check
from lastpasses.desks import desk
from lastpasses.equality import is_constant, same, shortest, word_at, word_count
from lastpasses.finals import final_row, final_word
from lastpasses.kept import kept
from lastpasses.papers import path_paper, word_paper
from lastpasses.passes import after, single_pass
from lastpasses.programs import last_passes, run
from lastpasses.reach import mismatches, word_to
from common import LONG_ROWS, PromiseCase, all_rows, all_words, words_up_to

MOST = 5


def effect(word, rows):
    return tuple(after(row, word) for row in rows)


def same_by_letters(one, other, size):
    """Equal in the last size - 1 letters, or equal altogether if one of them has fewer."""
    if len(one) < size - 1 or len(other) < size - 1:
        return one == other
    return one[len(one) - size + 1:] == other[len(other) - size + 1:]


def row_read_backwards(people, word):
    """The row that the last letters of the word leave, whoever stood where before."""
    remaining = sorted(people)
    row = []
    for kind in reversed(word):
        if len(remaining) > 1:
            row.insert(0, remaining.pop(-1 if kind == "T" else 0))
    return tuple(remaining + row)


class SameEffect(PromiseCase):
    def test_two_words_have_the_same_effect_if_and_only_if_their_last_letters_are_the_same(self):
        for size in range(1, MOST):
            rows = all_rows(size)
            effects = {word: effect(word, rows) for word in words_up_to(size + 1)}
            for one in effects:
                for other in effects:
                    self.assertEqual(effects[one] == effects[other], same_by_letters(one, other, size))

    def test_number_of_effects(self):
        for size in range(1, MOST + 1):
            rows = all_rows(size)
            effects = {effect(word, rows) for word in words_up_to(size + 1)}
            self.assertEqual(len(effects), 2 ** size - 1)

    def test_only_the_last_letters_of_long_words_count(self):
        for row in LONG_ROWS:
            for tail in ("STSTSTSTSTS", "TTTTTSSSSSS", "SSTSSTTTSTS"):
                for head in ("S", "T", "ST" * 100, "T" * 389):
                    self.assert_same(after(row, head + tail), after(row, tail))


class LastPasses(PromiseCase):
    def test_the_row_does_not_depend_on_the_row_before(self):
        for size in range(1, MOST + 1):
            for length in (size - 1, size, size + 1):
                for word in all_words(length):
                    wanted = row_read_backwards(range(1, size + 1), word)
                    for row in all_rows(size):
                        self.assert_same(after(row, word), wanted)

    def test_twelve_people(self):
        for row in LONG_ROWS:
            for word in ("STSTSTSTSTS", "TTTTTSSSSSS", "SSTSSTTTSTSTTSSSSTT", "ST" * 200):
                self.assert_same(after(row, word), row_read_backwards(row, word))

    def test_fewer_passes_leave_a_difference(self):
        for size in range(2, MOST + 1):
            for word in all_words(size - 2):
                self.assertGreater(len(set(effect(word, all_rows(size)))), 1)


class Desks(PromiseCase):
    def test_a_desk_has_the_effect_of_its_passes(self):
        for size in range(1, MOST + 1):
            for shorts in range(size + 1):
                for talls in range(size + 1 - shorts):
                    for row in all_rows(size):
                        self.assert_same(desk(row, shorts, talls), after(row, "S" * shorts + "T" * talls))


class Words(PromiseCase):
    def test_each_effect_has_one_word_in_the_order(self):
        for size in range(1, MOST + 1):
            words = [word_at(size, number) for number in range(word_count(size))]
            self.assertEqual(len({effect(word, all_rows(size)) for word in words}), 2 ** size - 1)
            for word in words_up_to(size + 1):
                self.assertIn(shortest(word, size), words)

    def test_same_and_is_constant_say_what_the_passes_do(self):
        for size in range(1, MOST):
            effects = {word: effect(word, all_rows(size)) for word in words_up_to(size + 1)}
            for one in effects:
                self.assertIs(is_constant(one, size), len(set(effects[one])) == 1)
                for other in effects:
                    self.assertIs(same(one, other, size), effects[one] == effects[other])


class Programs(PromiseCase):
    PROGRAMS = (
        ("SST", ("desk", 1, 2), ("repeat", 1000, ("T", ("desk", 1, 0)))),
        (("repeat", 10 ** 30, ("SST", ("repeat", 10 ** 30, ("T", "SS")), ("desk", 0, 1))),),
        (("desk", 1, 2), ("repeat", 3, ("T",)), ("repeat", 10 ** 30, (("desk", 0, 0),))),
    )

    def test_only_the_last_passes_count(self):
        for program in self.PROGRAMS:
            for row in LONG_ROWS:
                for size in range(3, 13):
                    wanted = after(row[:size], last_passes(program))
                    self.assert_same(run(row[:size], program), wanted)
                    self.assert_same(after(row[:size], last_passes(program, count=size - 1)), wanted)

    def test_the_row_does_not_depend_on_the_row_before(self):
        for program in self.PROGRAMS[:2]:
            for size in range(3, MOST + 1):
                wanted = row_read_backwards(range(1, size + 1), last_passes(program))
                self.assertEqual({run(row, program) for row in all_rows(size)}, {wanted})


class FinalRows(PromiseCase):
    def test_the_row_is_read_off_the_passes_backwards(self):
        for size in range(1, MOST + 1):
            heights = tuple(range(1, size + 1))
            for length in (size - 1, size, size + 1):
                for word in all_words(length):
                    wanted = row_read_backwards(heights, word)
                    self.assert_same(final_row(heights, word), wanted)
                    self.assert_same(final_word(wanted), word[length - size + 1:])

    def test_twelve_people(self):
        for row in LONG_ROWS:
            for word in ("STSTSTSTSTS", "TTTTTSSSSSS", "SSTSSTTTSTSTTSSSSTT", "ST" * 200):
                self.assert_same(final_row(tuple(sorted(row)), word), row_read_backwards(row, word))


class Paths(PromiseCase):
    def test_evidence_for_either_answer(self):
        for size in range(1, MOST):
            for row in all_rows(size):
                for other in all_rows(size):
                    word = word_to(row, other)
                    pairs = mismatches(row, other)
                    if word is None:
                        self.assertNotEqual(pairs, ())
                        self.check_pairs(row, other, pairs)
                    else:
                        self.assertEqual(pairs, ())
                        self.assert_same(after(row, word), other)

    def check_pairs(self, row, other, pairs):
        """Whatever the number of last passes, the people kept differ, until no more last passes are possible."""
        shorts = 0
        for count, index in pairs:
            front = other[:len(row) - count]
            self.assertNotEqual(kept(row, shorts, count - shorts)[index], front[index])
            shorts += front[-1] == min(front)
        self.assertNotIn(front[-1], (min(front), max(front)))


class Evidence(PromiseCase):
    """Whatever the checker accepts is true, no matter who wrote it, and it accepts the papers of this package."""

    def test_paths(self):
        for size in range(1, MOST):
            for row in all_rows(size):
                reached = {after(row, word) for word in words_up_to(size)}
                for other in all_rows(size):
                    claim, paper = path_paper(row, other)
                    self.assertEqual(claim[0], "path" if other in reached else "no path")
                    self.assertIs(check(claim, paper), True)
                    self.assertFalse(any(
                        check(("no path" if other in reached else "path", row, other), wrong)
                        for wrong in self.other_papers(row, other)
                    ))

    def other_papers(self, row, other):
        yield from words_up_to(3)
        for many in range(4):
            for indexes in itertools.product(range(3), repeat=many):
                yield tuple(enumerate(indexes))

    def test_words(self):
        for size in range(1, MOST):
            effects = {word: effect(word, all_rows(size)) for word in words_up_to(size)}
            for one in effects:
                for other in effects:
                    equal = effects[one] == effects[other]
                    claim, paper = word_paper(one, other, size)
                    self.assertEqual(claim, ("same" if equal else "different", size, one, other))
                    self.assertIs(check(claim, paper), True)
                    self.assertIs(check(("same", size, one, other), None), equal)
                    if equal:
                        rows = all_rows(size)
                        self.assertFalse(any(check(("different", size, one, other), row) for row in rows))


class People(PromiseCase):
    def test_the_people_stay_the_same(self):
        for row in LONG_ROWS:
            for word in ("", "S", "T", "SSTTST"):
                self.assertEqual(sorted(after(row, word)), sorted(row))

    def test_the_tallest_or_the_shortest_is_held_back_until_the_end(self):
        for row in LONG_ROWS:
            self.assertEqual(single_pass(row, "T")[-1], max(row))
            self.assertEqual(single_pass(row, "S")[-1], min(row))


if __name__ == "__main__":
    unittest.main()
