"""lastpasses.checker: evidence for claims, whoever wrote it."""

import ast
import itertools
import pathlib
import random
import unittest

from lastpasses import checker
from lastpasses.checker import check
from lastpasses.papers import order_paper, path_paper, place_paper, word_paper
from common import LONG_ROWS, NUMBERS, ODD_VALUES, TEXTS, Odd, PromiseCase, all_rows, nested, walk_word, words_up_to
from deep_changes import changed
from reference_checker import accepts, is_true
from sample_records import FIRST, IMPOSSIBLE, NAMES, SECOND, THIRD, drawn_records, one_changed

RANDOM = random.Random(47)

FOUR = (1, 2, 3, 4)
FIVE = (1, 2, 3, 4, 5)

FIRST_OF_ABC = (("a", "b", "c"), "S", ("b", "c", "a"))

# A claim with its true paper, of each form and with each kind of paper.
TRUE_PAPERS = (
    (("path", (2, 4, 1, 3), (4, 2, 3, 1)), "S"),
    (("path", (2, 4, 1, 3), (2, 4, 1, 3)), ""),
    (("path", (2, 4, 1, 3), (3, 2, 4, 1)), "TTSTS"),
    (("path", (7,), (7,)), ""),
    (("path", (7,), (7,)), "STTS"),
    (("no path", (1, 2, 3), (1, 3, 2)), ((0, 1),)),
    (("no path", (1, 2, 3), (1, 3, 2)), ((0, 2),)),
    (("no path", (1, 2, 3, 4), (1, 3, 2, 4)), ((0, 2), (1, 1))),
    (("no path", (3, 1, 2, 5, 4), (2, 4, 3, 1, 5)), ((0, 0), (1, 0), (2, 1))),
    (("same", 4, "TTSST", "SSST"), None),
    (("same", 3, "T", "T"), None),
    (("same", 1, "", "SS"), None),
    (("same", 12, "S" * 11, "T" + "S" * 11), None),
    (("different", 3, "ST", "TS"), (1, 2, 3)),
    (("different", 3, "T", "TT"), (3, 2, 1)),
    (("different", 2, "", "S"), (170, 180)),
    (("order", (FIRST,)), ("ann", "cy", "bob")),
    (("order", (FIRST,)), ("cy", "ann", "bob")),
    (("order", (FIRST, SECOND)), ("cy", "ann", "bob")),
    (("no order", (IMPOSSIBLE,)), ("impossible", 0)),
    (("no order", (FIRST, IMPOSSIBLE)), ("impossible", 1)),
    (("no order", (FIRST, THIRD)), ("cycle", (("ann", "bob", 0), ("bob", "ann", 1)))),
    (("no order", (FIRST, THIRD, IMPOSSIBLE)), ("cycle", (("bob", "ann", 1), ("ann", "bob", 0)))),
    (
        ("no order", ((("a", "b", "c"), "T", ("a", "b", "c")), FIRST_OF_ABC, (("c", "a", "b"), "T", ("c", "a", "b")))),
        ("cycle", (("a", "b", 0), ("b", "c", 0), ("c", "a", 2))),
    ),
    (("placed", FOUR, ((2, 1),)), "SST"),
    (("placed", FOUR, ()), "TTT"),
    (("placed", (7,), ((7, 0),)), ""),
    (("placed", (1, 5, 9), ((5, 0), (9, 2))), "ST"),
    (("not placed", FOUR, ((1, 1), (4, 2))), ((), (), (), ())),
    (("not placed", FOUR, ((1, 0), (3, 1))), ((0,), (), (), ())),
    (("not placed", FIVE, ((4, 2), (2, 3))), ((0, 1), (2,), (), (), ())),
    (("not placed", (1, 2, 3, 4, 5, 6), ((5, 0), (3, 1))), ((0, 1), (1, 2), (2,), (), (), ())),
)


class Checker(PromiseCase):
    def agree(self, claim, paper):
        """The answer is that of the second checker, and what is accepted is true."""
        found = check(claim, paper)
        self.assertIs(type(found), bool)
        self.assertIs(found, accepts(claim, paper), (repr(claim), repr(paper)))
        return found


class TruePapers(Checker):
    def test_accepted(self):
        for claim, paper in TRUE_PAPERS:
            with self.subTest(claim=claim, paper=paper):
                self.assertTrue(self.agree(claim, paper))
                self.assertIs(check(claim=claim, paper=paper), True)
                self.assertIs(check(paper=paper, claim=claim), True)
                if not (claim[0] == "same" and claim[1] > 4):
                    self.assertTrue(is_true(claim))

    def test_one_part_changed(self):
        met = {}
        for claim, paper in TRUE_PAPERS:
            for other in changed(claim):
                found = self.agree(other, paper)
                met.setdefault(("claim", found), []).append(claim[0])
            for other in changed(paper):
                found = self.agree(claim, other)
                met.setdefault(("paper", found), []).append(claim[0])
        for part in ("claim", "paper"):
            self.assertEqual(len(set(met[part, False])), 8)
        self.assertGreaterEqual(len(met["claim", True]) + len(met["paper", True]), 100)

    def test_the_paper_of_another_claim(self):
        papers = [paper for _, paper in TRUE_PAPERS]
        for claim, _ in TRUE_PAPERS:
            for paper in papers:
                self.agree(claim, paper)

    def test_another_word_for_the_claim(self):
        words = ("path", "no path", "same", "different", "order", "no order", "placed", "not placed")
        for claim, paper in TRUE_PAPERS:
            for word in words:
                self.agree((word,) + claim[1:], paper)


class NoForm(Checker):
    def test_any_values(self):
        values = ODD_VALUES + NUMBERS + TEXTS + (nested(19), "path", ("path",), ["path", (1,), (1,)])
        for claim in values:
            for paper in values:
                self.assertIs(check(claim, paper), False)

    def test_claims_of_no_such_form(self):
        for claim, paper in TRUE_PAPERS:
            for wrong in (
                list(claim), claim[1:], claim[:-1], claim + (None,), claim + (claim[-1],), (claim,), claim[0],
                (claim[0].upper(),) + claim[1:], (claim[0] + " ",) + claim[1:], (" " + claim[0],) + claim[1:],
                (claim[0].replace(" ", "  ") + "\n",) + claim[1:], (claim[0].encode(),) + claim[1:],
                ((claim[0],),) + claim[1:], (None,) + claim[1:], (0,) + claim[1:], (Odd(),) + claim[1:],
                ([],) + claim[1:], claim[::-1], ("",) + claim[1:], ("no " + claim[0] + "s",) + claim[1:],
            ):
                self.assertIs(check(wrong, paper), False)

    def test_odd_values_in_each_place(self):
        for claim, paper in TRUE_PAPERS:
            for at in range(1, len(claim)):
                for value in ODD_VALUES + NUMBERS + TEXTS:
                    self.agree(claim[:at] + (value,) + claim[at + 1:], paper)
            for value in ODD_VALUES + NUMBERS + TEXTS:
                self.agree(claim, value)

    def test_limits(self):
        self.assertIs(check(("path", (1, 2), (1, 2)), "T" * 400), True)
        self.assertIs(check(("path", (1, 2), (1, 2)), "T" * 401), False)
        self.assertIs(check(("path", tuple(range(1, 13)), tuple(range(1, 13))), "T" * 12), True)
        self.assertIs(check(("path", tuple(range(1, 14)), tuple(range(1, 14))), "T" * 12), False)
        self.assertIs(check(("path", (999,), (999,)), ""), True)
        self.assertIs(check(("path", (1000,), (1000,)), ""), False)
        self.assertIs(check(("path", (True,), (True,)), ""), False)
        self.assertIs(check(("same", 12, "S" * 400, "S" * 399), None), True)
        self.assertIs(check(("same", 12, "S" * 401, "S" * 399), None), False)
        self.assertIs(check(("same", 13, "S", "S"), None), False)
        self.assertIs(check(("same", 0, "S", "S"), None), False)
        self.assertIs(check(("same", True, "S", "S"), None), False)
        self.assertIs(check(("order", (FIRST,) * 20), ("ann", "cy", "bob")), True)
        self.assertIs(check(("order", (FIRST,) * 21), ("ann", "cy", "bob")), False)
        self.assertIs(check(("order", ()), ()), False)
        self.assertIs(check(("no order", (IMPOSSIBLE,) * 20), ("impossible", 19)), True)
        self.assertIs(check(("no order", (IMPOSSIBLE,) * 20), ("impossible", 20)), False)
        self.assertIs(check(("no order", (IMPOSSIBLE,) * 20), ("impossible", -1)), False)
        self.assertIs(check(("no order", (IMPOSSIBLE,) * 20), ("impossible", True)), False)
        self.assertIs(check(("no order", (IMPOSSIBLE,) * 21), ("impossible", 0)), False)


class Paths(Checker):
    def test_all_rows_and_short_words(self):
        for size in range(1, 4):
            for row, other in itertools.product(all_rows(size), repeat=2):
                for word in words_up_to(size + 1):
                    if self.agree(("path", row, other), word):
                        self.assertTrue(is_true(("path", row, other)))

    def test_all_rows_and_all_pairs(self):
        for size in range(1, 5):
            for row, other in itertools.product(all_rows(size), repeat=2):
                accepted = 0
                for many in range(size + 1):
                    for indexes in itertools.product(range(size - 1), repeat=many):
                        paper = tuple(enumerate(indexes))
                        accepted += self.agree(("no path", row, other), paper)
                self.assertEqual(accepted > 0, is_true(("no path", row, other)))

    def test_indexes_outside(self):
        claim = ("no path", (1, 2, 3, 4), (1, 3, 2, 4))
        for indexes in itertools.product(range(-5, 6), repeat=2):
            self.agree(claim, tuple(enumerate(indexes)))
        for counts in itertools.product(range(-2, 4), repeat=2):
            self.agree(claim, tuple((count, 1) for count in counts))

    def test_long_rows(self):
        for row in LONG_ROWS:
            for other in LONG_ROWS:
                if sorted(row) == sorted(other):
                    for people in (other, walk_word(other, "S"), walk_word(other, "TTS"), walk_word(row, "STT")):
                        claim, paper = path_paper(row, people)
                        self.assertTrue(self.agree(claim, paper))
                        for wrong in changed(paper):
                            self.agree(claim, wrong)


class Words(Checker):
    def test_all_words_of_few_letters(self):
        for size in range(1, 4):
            for word, other in itertools.product(words_up_to(size), repeat=2):
                self.assertIs(self.agree(("same", size, word, other), None), is_true(("same", size, word, other)))
                rows = [self.agree(("different", size, word, other), row) for row in all_rows(size)]
                self.assertIs(any(rows), is_true(("different", size, word, other)))
                for row in all_rows(size + 1)[:2] + [(), (1,), (5, 5), (5, 9)]:
                    self.agree(("different", size, word, other), row)

    def test_long_words(self):
        for size in (5, 12):
            for _ in range(60):
                end = "".join(RANDOM.choice("ST") for _ in range(size - RANDOM.randrange(3)))
                word = "".join(RANDOM.choice("ST") for _ in range(RANDOM.randrange(4))) + end
                other = "".join(RANDOM.choice("ST") for _ in range(RANDOM.randrange(4))) + end
                self.agree(("same", size, word, other), None)
                claim, paper = word_paper(word, other, size)
                self.assertTrue(self.agree(claim, paper))

    def test_the_paper_for_same_is_none(self):
        for paper in ODD_VALUES + NUMBERS + TEXTS + ((1, 2, 3),):
            self.assertIs(check(("same", 3, "ST", "ST"), paper), paper is None)


class Orders(Checker):
    def test_all_orders_of_few_names(self):
        for size in range(2, 5):
            for _ in range(12):
                records = drawn_records(RANDOM, RANDOM.sample(NAMES, size), RANDOM.randrange(1, 4))
                for chosen in (records, one_changed(RANDOM, records)):
                    found = [
                        self.agree(("order", chosen), order) for order in itertools.permutations(records[0][0])
                    ]
                    self.assertIs(any(found), is_true(("order", chosen)))
                    for order in ((), records[0][0][:1], records[0][0] + ("x",), list(records[0][0])):
                        self.agree(("order", chosen), order)

    def test_all_cycles_of_few_names(self):
        for _ in range(30):
            records = drawn_records(RANDOM, NAMES[:3], 2)
            records = one_changed(RANDOM, records)
            steps = list(itertools.product(NAMES[:3], NAMES[:3], range(2)))
            accepted = [self.agree(("no order", records), ("impossible", index)) for index in range(-2, 3)]
            for many in (1, 2, 3):
                for chosen in itertools.product(steps, repeat=many):
                    # Those that do not lead on are all refused for the same reason.
                    if sum(one[1] == two[0] for one, two in zip(chosen, chosen[1:] + chosen[:1])) >= many - 1:
                        accepted.append(self.agree(("no order", records), ("cycle", chosen)))
            self.assertIs(any(accepted), is_true(("no order", records)))

    def test_long_cycles(self):
        claim = ("no order", (FIRST, THIRD))
        steps = (("ann", "bob", 0), ("bob", "ann", 1))
        self.assertIs(check(claim, ("cycle", steps * 50)), True)
        self.assertIs(check(claim, ("cycle", steps * 50 + steps[:1])), False)
        self.assertIs(check(claim, ("cycle", ())), False)
        self.assertIs(check(claim, ("cycle", (("cy", "bob", 0), ("bob", "cy", 1)))), True)
        self.assertIs(check(claim, ("cycle", (("cy", "bob", 0), ("bob", "ann", 1), ("ann", "bob", 0),
                                              ("bob", "cy", 1)))), True)
        self.assertIs(check(claim, ("cycle", (("cy", "bob", 0), ("bob", "cy", -1)))), False)
        self.assertIs(check(claim, ("cycle", (("cy", "bob", False), ("bob", "cy", True)))), False)
        self.assertIs(check(claim, ("cycle", (("cy", "cy", 0),))), False)
        self.assertIs(check(claim, ("impossible", 0)), False)
        self.assertIs(check(claim, ("impossible", steps)), False)
        self.assertIs(check(claim, ("cycle", 0)), False)

    def test_steps_of_a_record_that_no_order_explains(self):
        claim = ("no order", (FIRST, IMPOSSIBLE))
        for low, high in itertools.permutations(FIRST[0], 2):
            self.assertIs(check(claim, ("cycle", ((low, high, 1), (high, low, 1)))), False)
            self.assertIs(check(claim, ("cycle", ((low, high, 0), (high, low, 1)))), False)

    def test_twelve_names(self):
        for many in (1, 3, 20):
            for _ in range(5):
                records = drawn_records(RANDOM, NAMES, many)
                for chosen in (records, one_changed(RANDOM, records)):
                    claim, paper = order_paper(chosen)
                    self.assertIs(check(claim, paper), True)
                    self.assertIs(check(("no order" if claim[0] == "order" else "order", chosen), paper), False)


class Places(Checker):
    def all_wishes(self, heights):
        for many in range(len(heights) + 1):
            for indexes in itertools.combinations(range(len(heights)), many):
                for wished in itertools.permutations(heights, many):
                    yield tuple(zip(wished, indexes))

    def test_all_wishes_and_all_words(self):
        for heights in ((7,), (1, 999), (5, 20, 21), (1, 2, 3, 4)):
            for wishes in self.all_wishes(heights):
                claim = ("placed", heights, wishes)
                found = [self.agree(claim, word) for word in words_up_to(len(heights))]
                self.assertIs(any(found), is_true(claim))

    def test_all_wishes_and_all_counts(self):
        for heights in ((7,), (1, 999), (5, 20, 21)):
            size = len(heights)
            tuples = [
                [counts for many in range(placed + 2) for counts in itertools.combinations(range(placed + 1), many)]
                for placed in range(1, size + 1)
            ]
            for wishes in self.all_wishes(heights):
                claim = ("not placed", heights, wishes)
                found = [self.agree(claim, paper) for paper in itertools.product(*tuples)]
                self.assertIs(any(found), is_true(claim))

    def test_four_people(self):
        for wishes in self.all_wishes(FOUR):
            claim, paper = place_paper(FOUR, wishes)
            self.assertTrue(self.agree(claim, paper))
            self.assertTrue(is_true(claim))
            if claim[0] == "not placed":
                for wrong in changed(paper):
                    self.agree(claim, wrong)

    def test_counts_too_many_and_too_few(self):
        claim = ("not placed", FIVE, ((4, 2), (2, 3)))
        self.assertTrue(is_true(claim))
        for paper, wanted in (
            (((0, 1), (2,), (), (), ()), True),
            (((0, 1), (1, 2), (), (), ()), False),
            (((0, 1), (), (), (), ()), False),
            (((0,), (2,), (), (), ()), False),
            (((1,), (2,), (), (), ()), False),
            (((), (), (), (), ()), False),
            (((1, 0), (2,), (), (), ()), False),
            (((0, 1, 1), (2,), (), (), ()), False),
            (((0, 0, 1), (2,), (), (), ()), False),
            (((0, 1, 2), (2,), (), (), ()), False),
            (((-1, 0, 1), (2,), (), (), ()), False),
            (((0, True), (2,), (), (), ()), False),
            (((False, 1), (2,), (), (), ()), False),
            (((0, 1), (2, 3), (), (), ()), False),
            (((0, 1), (2,), (0,), (), ()), False),
            (((0, 1), (2,), (0, 1, 2, 3), (0, 1, 2, 3, 4), ()), False),
            (((0, 1), (2,), (), (), (0,)), False),
            (((0, 1), (2,), (), (), None), False),
            (((0, 1), (2,), (), ()), False),
            (((0, 1), (2,), (), (), (), ()), False),
            ((), False),
            ([(0, 1), (2,), (), (), ()], False),
            (((0, 1), [2], (), (), ()), False),
            (((0, 1), (2,), (), (), []), False),
            (((0, 1), 2, (), (), ()), False),
            (((0, 1), "2", "", "", ""), False),
        ):
            with self.subTest(paper=paper):
                self.assertIs(self.agree(claim, paper), wanted)

    def test_counts_that_are_not_reached(self):
        """A paper may contain more counts than are reached, as long as nothing follows from them in the end."""
        met = set()
        for wishes in self.all_wishes(FOUR):
            claim, paper = place_paper(FOUR, wishes)
            if claim[0] != "not placed":
                continue
            for at in range(3):
                for further in range(at + 2):
                    counts = tuple(sorted(set(paper[at] + (further,))))
                    more = paper[:at] + (counts,) + paper[at + 1:]
                    if more != paper:
                        met.add(self.agree(claim, more))
        self.assertEqual(met, {True, False})

    def test_twelve_people(self):
        heights = tuple(sorted(LONG_ROWS[3]))
        met = set()
        for many in range(1, 7):
            for _ in range(6):
                indexes = sorted(RANDOM.sample(range(12), many))
                wishes = tuple(zip(RANDOM.sample(heights, many), indexes))
                claim, paper = place_paper(heights, wishes)
                self.assertTrue(self.agree(claim, paper))
                met.add(claim[0])
        self.assertEqual(met, {"placed", "not placed"})


class Imports(unittest.TestCase):
    def test_only_four_modules(self):
        tree = ast.parse(pathlib.Path(checker.__file__).read_text(encoding="utf-8"))
        modules = {node.module for node in ast.walk(tree) if isinstance(node, ast.ImportFrom)}
        self.assertFalse([node for node in ast.walk(tree) if isinstance(node, ast.Import)])
        allowed = {"lastpasses." + name for name in ("limits", "errors", "rows", "passes")}
        self.assertEqual(modules - allowed, set())


class Arguments(Checker):
    def test_lists_stay_as_they_are(self):
        claim = ["path", [1, 2], [2, 1]]
        paper = [["S"]]
        self.assertIs(check(claim, paper), False)
        self.assertIs(check(tuple(claim), paper), False)
        self.assertEqual((claim, paper), (["path", [1, 2], [2, 1]], [["S"]]))

    def test_equal_calls_return_equal_results(self):
        for claim, paper in TRUE_PAPERS:
            self.assertIs(check(claim, paper), check(tuple(list(claim)), paper))


if __name__ == "__main__":
    unittest.main()
