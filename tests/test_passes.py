"""lastpasses.passes: single passes, words, and their errors."""

import unittest

from lastpasses.errors import InvalidKind, InvalidRow, InvalidWord
from lastpasses.passes import after, single_pass, sitters
from common import (
    LONG_ROWS, WRONG_KINDS, WRONG_ROWS, WRONG_WORDS, Odd, PromiseCase, all_rows, walk_at_the_chair, walk_word,
    words_up_to,
)

ROWS = ((7,), (1, 999), (999, 1), (20, 40, 10, 30), (170, 180, 165, 190, 150)) + LONG_ROWS

MANY_ROWS = ROWS + tuple(row for size in range(1, 7) for row in all_rows(size))

WORDS = ("", "S", "T", "ST", "TS", "SSTT", "TTTTTTTT", "SSSSSSSSSSSSSS", "STSTSTSTSTSTS", "TTSTSSSTTTTSSSS")


class SinglePass(PromiseCase):
    def test_known_passes(self):
        self.assert_same(single_pass((2, 4, 1, 3), "T"), (2, 1, 3, 4))
        self.assert_same(single_pass((2, 4, 1, 3), "S"), (4, 2, 3, 1))
        self.assert_same(single_pass((170, 180, 165, 190, 150), "T"), (170, 165, 180, 150, 190))
        self.assert_same(single_pass((170, 180, 165, 190, 150), "S"), (180, 170, 190, 165, 150))

    def test_one_person(self):
        for kind in "ST":
            self.assert_same(single_pass((7,), kind), (7,))
            self.assert_same(sitters((7,), kind), (7,))

    def test_ascending_and_descending(self):
        up = (1, 2, 3, 4, 5)
        down = (5, 4, 3, 2, 1)
        self.assert_same(single_pass(up, "T"), up)
        self.assert_same(single_pass(up, "S"), (2, 3, 4, 5, 1))
        self.assert_same(single_pass(down, "S"), down)
        self.assert_same(single_pass(down, "T"), (4, 3, 2, 1, 5))

    def test_against_the_walk(self):
        for row in MANY_ROWS:
            for kind in "ST":
                self.assert_same(single_pass(row, kind), walk_at_the_chair(row, kind)[0])

    def test_by_name(self):
        self.assert_same(single_pass(row=(2, 4, 1, 3), kind="T"), (2, 1, 3, 4))
        self.assert_same(single_pass((2, 4, 1, 3), kind="S"), (4, 2, 3, 1))
        self.assert_same(single_pass(kind="S", row=(2, 4, 1, 3)), (4, 2, 3, 1))


class Sitters(PromiseCase):
    def test_known_sitters(self):
        self.assert_same(sitters((2, 4, 1, 3), "S"), (2, 1))
        self.assert_same(sitters((2, 4, 1, 3), "T"), (2, 4))
        self.assert_same(sitters((170, 180, 165, 190, 150), "T"), (170, 180, 190))
        self.assert_same(sitters((170, 180, 165, 190, 150), "S"), (170, 165, 150))

    def test_ascending_and_descending(self):
        up = (1, 2, 3, 4, 5)
        down = (5, 4, 3, 2, 1)
        self.assert_same(sitters(up, "T"), up)
        self.assert_same(sitters(up, "S"), (1,))
        self.assert_same(sitters(down, "S"), down)
        self.assert_same(sitters(down, "T"), (5,))

    def test_against_the_walk(self):
        for row in MANY_ROWS:
            for kind in "ST":
                self.assert_same(sitters(row, kind), walk_at_the_chair(row, kind)[1])

    def test_by_name(self):
        self.assert_same(sitters(row=(2, 4, 1, 3), kind="S"), (2, 1))
        self.assert_same(sitters((2, 4, 1, 3), kind="T"), (2, 4))
        self.assert_same(sitters(kind="T", row=(2, 4, 1, 3)), (2, 4))


class After(PromiseCase):
    def test_known_words(self):
        self.assert_same(after((2, 4, 1, 3), "ST"), (2, 3, 1, 4))
        self.assert_same(after((2, 4, 1, 3), "TS"), (2, 3, 4, 1))
        self.assert_same(after((3, 1, 2), "TT"), (1, 2, 3))

    def test_the_empty_word(self):
        for row in ROWS:
            self.assert_same(after(row, ""), row)

    def test_one_letter(self):
        for row in ROWS:
            for kind in "ST":
                self.assert_same(after(row, kind), walk_at_the_chair(row, kind)[0])

    def test_from_left_to_right(self):
        for row in all_rows(4):
            for word in words_up_to(4):
                self.assert_same(after(row, word), walk_word(row, word))

    def test_mixed_words_and_runs(self):
        for row in ROWS:
            for word in WORDS:
                self.assert_same(after(row, word), walk_word(row, word))

    def test_four_hundred_letters(self):
        for row in ROWS:
            for word in ("S" * 400, "T" * 400, "ST" * 200, "SSTST" * 80, "T" * 399 + "S"):
                self.assert_same(after(row, word), walk_word(row, word))

    def test_one_word_behind_another(self):
        for row in ROWS:
            for first in WORDS:
                for second in WORDS:
                    self.assert_same(after(after(row, first), second), after(row, first + second))

    def test_by_name(self):
        self.assert_same(after(row=(2, 4, 1, 3), word="ST"), (2, 3, 1, 4))
        self.assert_same(after((2, 4, 1, 3), word="ST"), (2, 3, 1, 4))
        self.assert_same(after(word="ST", row=(2, 4, 1, 3)), (2, 3, 1, 4))


class Errors(PromiseCase):
    def test_rows(self):
        for row, index in WRONG_ROWS:
            with self.subTest(row=type(row), index=index):
                self.assert_error(InvalidRow, "index", index, single_pass, row, "T")
                self.assert_error(InvalidRow, "index", index, sitters, row, "S")
                self.assert_error(InvalidRow, "index", index, after, row, "ST")
                self.assert_error(InvalidRow, "index", index, after, row, "")

    def test_kinds(self):
        for kind in WRONG_KINDS:
            with self.subTest(kind=type(kind)):
                self.assert_error(InvalidKind, "kind", kind, single_pass, (2, 4), kind)
                self.assert_error(InvalidKind, "kind", kind, sitters, (2, 4), kind)
                self.assert_error(InvalidKind, "kind", kind, single_pass, (7,), kind)
                self.assert_error(InvalidKind, "kind", kind, sitters, row=(7,), kind=kind)

    def test_words(self):
        for word, index in WRONG_WORDS:
            with self.subTest(word=type(word), index=index):
                self.assert_error(InvalidWord, "index", index, after, (2, 4, 1, 3), word)
                self.assert_error(InvalidWord, "index", index, after, row=(7,), word=word)

    def test_the_row_comes_first(self):
        for row, index in WRONG_ROWS:
            with self.subTest(row=type(row), index=index):
                for kind in ("t", None, Odd()):
                    self.assert_error(InvalidRow, "index", index, single_pass, row, kind)
                    self.assert_error(InvalidRow, "index", index, sitters, kind=kind, row=row)
                for word in ("STs", "S" * 401, None, Odd()):
                    self.assert_error(InvalidRow, "index", index, after, row, word)
                    self.assert_error(InvalidRow, "index", index, after, word=word, row=row)


class Arguments(PromiseCase):
    def test_the_row_stays_as_it_was(self):
        for row in ROWS:
            before = list(row)
            for word in WORDS:
                after(row, word)
            for kind in "ST":
                single_pass(row, kind)
                sitters(row, kind)
            self.assertEqual(list(row), before)

    def test_a_list_is_refused_and_stays_as_it_was(self):
        people = [2, 4, 1, 3]
        for call in (single_pass, sitters, after):
            self.assert_error(InvalidRow, "index", None, call, people, "T")
        self.assertEqual(people, [2, 4, 1, 3])

    def test_results_are_new_tuples(self):
        for row in ROWS:
            self.assertIsNot(after(row, ""), row)
            self.assertIs(type(after(row, "")), tuple)

    def test_equal_calls_return_equal_results(self):
        for row in ROWS:
            equal_row = tuple(list(row))
            for kind in "ST":
                self.assert_same(single_pass(row, kind), single_pass(equal_row, kind))
                self.assert_same(sitters(row, kind), sitters(equal_row, kind))
            for word in WORDS:
                self.assert_same(after(row, word), after(equal_row, word))


if __name__ == "__main__":
    unittest.main()
