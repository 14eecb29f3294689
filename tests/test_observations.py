"""lastpasses.observations: observed passes, and the orders that explain them."""

import graphlib
import itertools
import math
import random
import unittest

from lastpasses.errors import InvalidRecord, NoOrder, UnknownName
from lastpasses.observations import comparisons, count_orders, find_order, is_shorter, possible_kinds
from common import Agreeable, Odd, PromiseCase, all_words
from sample_records import (
    FIRST, IMPOSSIBLE, NAMES, SECOND, THIRD, WRONG_NAMES, WRONG_RECORDS, all_orders, compared, drawn, drawn_records,
    explains, observed, one_changed, without_kind, wrong_pair_tuples, wrong_record_tuples,
)

RANDOM = random.Random(31)

RECORDS_CALLS = (find_order, count_orders, lambda records: is_shorter(records, "ann", "bob"))


def few_records():
    """Records with 2 to 5 names: of one order, and with one record that may not fit."""
    for size in range(2, 6):
        for many in (1, 1, 2, 2, 3, 4, 7, 20):
            for _ in range(3):
                records = drawn_records(RANDOM, RANDOM.sample(NAMES, size), many)
                yield records
                yield one_changed(RANDOM, records)
                yield one_changed(RANDOM, one_changed(RANDOM, records))


class Comparisons(PromiseCase):
    def test_known_records(self):
        self.assert_same(comparisons(FIRST), (("ann", "bob"), ("cy", "bob")))
        self.assert_same(comparisons(IMPOSSIBLE), None)
        self.assert_same(comparisons(SECOND), (("cy", "ann"), ("cy", "bob")))
        self.assert_same(comparisons((("b", "a"), "T", ("b", "a"))), (("b", "a"),))
        self.assert_same(comparisons((("b", "a"), "T", ("a", "b"))), (("a", "b"),))
        self.assert_same(comparisons((("b", "a"), "S", ("b", "a"))), (("a", "b"),))

    def test_passes_of_drawn_rows(self):
        for size in range(2, 13):
            for _ in range(20):
                order = drawn(RANDOM, NAMES[:size])
                for kind in "ST":
                    record = observed(order, drawn(RANDOM, NAMES[:size]), kind)
                    pairs = comparisons(record)
                    self.assert_same(pairs, compared(order, record))
                    self.assertEqual(len(pairs), size - 1)
                    self.assertEqual(list(pairs), sorted(set(pairs)))

    def test_every_record_of_few_names(self):
        for size in range(2, 5):
            names = NAMES[:size]
            orders = list(itertools.permutations(names))
            for before in orders:
                for kind in "ST":
                    possible = {observed(order, before, kind): order for order in orders}
                    for behind in itertools.permutations(names):
                        record = (before, kind, behind)
                        order = possible.get(record)
                        wanted = None if order is None else compared(order, record)
                        self.assert_same(comparisons(record), wanted)

    def test_another_row_after_the_pass(self):
        met = set()
        for size in range(2, 13):
            for _ in range(30):
                before, kind, behind = drawn_records(RANDOM, NAMES[:size], 1)[0]
                changed = list(behind)
                one, two = RANDOM.sample(range(size), 2)
                changed[one], changed[two] = changed[two], changed[one]
                for other in (tuple(changed), drawn(RANDOM, NAMES[:size])):
                    record = (before, kind, other)
                    pairs = comparisons(record)
                    met.add(pairs is None)
                    if pairs is not None:
                        self.assert_same(pairs, compared(find_order((record,)), record))
                        self.assertTrue(explains(find_order((record,)), record))
                    elif size <= 5:
                        self.assertEqual(all_orders((record,)), [])
        self.assertEqual(met, {True, False})

    def test_by_name(self):
        self.assert_same(comparisons(record=FIRST), (("ann", "bob"), ("cy", "bob")))

    def test_errors(self):
        for record in WRONG_RECORDS:
            self.assert_error(InvalidRecord, "index", None, comparisons, record)
            self.assert_error(InvalidRecord, "index", None, comparisons, record=record)
        self.assert_error(InvalidRecord, "index", None, comparisons, (FIRST,))


class Orders(PromiseCase):
    def check_records(self, records):
        orders = all_orders(records)
        self.assert_same(find_order(records), orders[0] if orders else None)
        self.assert_same(count_orders(records), len(orders))
        names = sorted(records[0][0])
        for one in names:
            for other in names:
                if orders:
                    wanted = all(order.index(one) < order.index(other) for order in orders)
                    self.assert_same(is_shorter(records, one, other), wanted)
                else:
                    self.assert_plain_error(NoOrder, is_shorter, records, one, other)
        return bool(orders)

    def test_known_records(self):
        self.assert_same(find_order((FIRST,)), ("ann", "cy", "bob"))
        self.assert_same(find_order((FIRST, SECOND)), ("cy", "ann", "bob"))
        self.assert_same(find_order((FIRST, THIRD)), None)
        self.assert_same(count_orders((FIRST,)), 2)
        self.assert_same(count_orders((FIRST, SECOND)), 1)
        self.assert_same(count_orders((FIRST, THIRD)), 0)
        self.assert_same(is_shorter((FIRST,), "cy", "bob"), True)
        self.assert_same(is_shorter((FIRST,), "ann", "cy"), False)
        self.assert_same(is_shorter((FIRST,), "bob", "cy"), False)
        for records in ((IMPOSSIBLE,), (FIRST, IMPOSSIBLE), (IMPOSSIBLE, FIRST), (SECOND, IMPOSSIBLE, SECOND)):
            self.assert_same(find_order(records), None)
            self.assert_same(count_orders(records), 0)
            self.assert_plain_error(NoOrder, is_shorter, records, "ann", "bob")

    def test_few_names_against_all_orders(self):
        met = {self.check_records(records) for records in few_records()}
        self.assertEqual(met, {True, False})

    def test_cycles_over_several_records(self):
        a, b, c = "a", "b", "c"
        low = (("a", "b", "c"), "T", ("a", "b", "c"))
        self.check_records((low, ((b, a, c), "T", (b, a, c))))
        self.check_records((low, ((c, b, a), "T", (c, b, a))))
        self.check_records((((a, b, c), "T", (b, a, c)), ((a, b, c), "T", (a, b, c))))

    def test_names_that_begin_other_names(self):
        records = drawn_records(RANDOM, ("a", "ab", "abc", "b"), 1)
        self.check_records(records)
        record = (("b", "a", "ab", "c"), "T", ("b", "a", "ab", "c"))
        self.check_records((record,))

    def test_twelve_names(self):
        for many in (1, 1, 1, 2, 3, 5, 10, 20):
            records = drawn_records(RANDOM, NAMES, many)
            order = find_order(records)
            self.assertEqual(sorted(order), sorted(NAMES))
            self.assertTrue(all(explains(order, record) for record in records))
            self.assertGreaterEqual(count_orders(records), 1)
            for one in NAMES:
                for other in NAMES:
                    if is_shorter(records, one, other):
                        self.assertLess(order.index(one), order.index(other))
                        self.assertFalse(is_shorter(records, other, one))
            for fewer in range(1, many):
                self.assertLessEqual(count_orders(records), count_orders(records[:fewer]))

    def test_the_order_of_twelve_names_is_the_first_one(self):
        """No name could stand earlier: with any other name at this place, no order would be left."""
        for many in (1, 2, 4):
            records = drawn_records(RANDOM, NAMES, many)
            order = find_order(records)
            for place, name in enumerate(order):
                for other in order[place + 1:]:
                    if other < name:
                        self.assertTrue(any(is_shorter(records, one, other) for one in order[place:]))

    def test_twelve_names_with_one_record_that_may_not_fit(self):
        met = set()
        for many in (1, 2, 3, 5, 10, 20):
            for _ in range(8):
                records = one_changed(RANDOM, drawn_records(RANDOM, NAMES, many))
                order = find_order(records)
                met.add(order is None)
                self.assertEqual(order is None, count_orders(records) == 0)
                if order is None:
                    self.assertFalse(self.can_be_sorted(records))
                    self.assert_plain_error(NoOrder, is_shorter, records, NAMES[0], NAMES[1])
                    self.assert_plain_error(NoOrder, is_shorter, records, NAMES[0], NAMES[0])
                else:
                    self.assertTrue(all(explains(order, record) for record in records))
        self.assertEqual(met, {True, False})

    def can_be_sorted(self, records):
        """Whether the comparisons of all records fit together, in whatever order."""
        shorter = {}
        for record in records:
            pairs = comparisons(record)
            if pairs is None:
                return False
            for low, high in pairs:
                shorter.setdefault(high, set()).add(low)
        try:
            graphlib.TopologicalSorter(shorter).prepare()
        except graphlib.CycleError:
            return False
        return True

    def test_counts_that_are_known(self):
        """A pass of an ascending row tells the whole order, a pass with one sitter only who is the tallest."""
        for size in range(2, 13):
            names = tuple(sorted(NAMES[:size]))
            self.assert_same(count_orders(((names, "T", names),)), 1)
            self.assert_same(count_orders(((names, "S", names[1:] + names[:1]),)), math.factorial(size - 1))
            self.assert_same(count_orders(((names, "T", names[1:] + names[:1]),) * 20), math.factorial(size - 1))

    def test_one_name_twice(self):
        for name in FIRST[0]:
            self.assert_same(is_shorter((FIRST,), name, name), False)
            self.assert_same(is_shorter((FIRST, SECOND), name, name), False)
            self.assert_plain_error(NoOrder, is_shorter, (FIRST, THIRD), name, name)

    def test_by_name(self):
        records = (FIRST,)
        self.assert_same(find_order(records=records), ("ann", "cy", "bob"))
        self.assert_same(count_orders(records=records), 2)
        self.assert_same(is_shorter(records=records, one="cy", other="bob"), True)
        self.assert_same(is_shorter(records, "cy", other="bob"), True)
        self.assert_same(is_shorter(other="bob", one="cy", records=records), True)


class Errors(PromiseCase):
    def test_records(self):
        for records, index in wrong_record_tuples():
            for call in RECORDS_CALLS:
                self.assert_error(InvalidRecord, "index", index, call, records)

    def test_unknown_names(self):
        for records in ((FIRST,), (FIRST, SECOND), (FIRST, THIRD), (IMPOSSIBLE,)):
            for name in WRONG_NAMES + ("dee", "an", "annn", "b", "c"):
                self.assert_error(UnknownName, "name", name, is_shorter, records, name, "bob")
                self.assert_error(UnknownName, "name", name, is_shorter, records, "ann", name)
                self.assert_error(UnknownName, "name", name, is_shorter, records, name, name)
                self.assert_error(UnknownName, "name", name, is_shorter, records, name, "eve")
                self.assert_error(UnknownName, "name", "eve", is_shorter, records, "eve", name)

    def test_order(self):
        for records, index in (([FIRST], None), ((FIRST, Odd()), 1), ((None,), 0), ((FIRST,) * 21, None)):
            for one in ("dee", None, Odd(), Agreeable()):
                self.assert_order(
                    is_shorter,
                    ("records", (FIRST,), records, InvalidRecord, "index", index),
                    ("one", "ann", one, UnknownName, "name", one),
                    ("other", "bob", "eve", UnknownName, "name", "eve"),
                )

    def test_no_order_comes_last(self):
        for records in ((FIRST, THIRD), (IMPOSSIBLE,)):
            self.assert_error(UnknownName, "name", "dee", is_shorter, records, "dee", "eve")
            self.assert_error(UnknownName, "name", "eve", is_shorter, records, "ann", "eve")
            self.assert_plain_error(NoOrder, is_shorter, records, "ann", "bob")
            self.assert_plain_error(NoOrder, is_shorter, other="bob", one="ann", records=records)


class Kinds(PromiseCase):
    def words_by_search(self, pairs):
        found = []
        for word in all_words(len(pairs)):
            records = [(before, kind, behind) for (before, behind), kind in zip(pairs, word)]
            if all_orders(records):
                found.append(word)
        return tuple(found)

    def test_known_pairs(self):
        self.assert_same(possible_kinds(((("ann", "bob"), ("bob", "ann")), (("bob", "ann"), ("ann", "bob")))),
                         ("ST", "TS"))
        self.assert_same(possible_kinds((without_kind(FIRST),)), ("S", "T"))
        self.assert_same(possible_kinds((without_kind(IMPOSSIBLE),)), ())
        self.assert_same(possible_kinds((without_kind(FIRST), without_kind(SECOND))), ("ST", "TS"))

    def test_few_pairs_against_all_words_and_all_orders(self):
        met = set()
        for size in range(2, 5):
            for many in (1, 2, 3, 4):
                for _ in range(8):
                    records = drawn_records(RANDOM, RANDOM.sample(NAMES, size), many)
                    for chosen in (records, one_changed(RANDOM, records)):
                        pairs = tuple(without_kind(record) for record in chosen)
                        found = possible_kinds(pairs)
                        self.assert_same(found, self.words_by_search(pairs))
                        met.add(len(found))
        self.assertEqual(met, {0, 2})

    def test_many_pairs(self):
        for size in (2, 3, 5, 12):
            for many in (1, 2, 10, 19, 20):
                records = drawn_records(RANDOM, NAMES[:size], many)
                word = "".join(kind for _, kind, _ in records)
                other = word.translate(str.maketrans("ST", "TS"))
                pairs = tuple(without_kind(record) for record in records)
                self.assert_same(possible_kinds(pairs), tuple(sorted((word, other))))

    def test_many_pairs_with_one_that_does_not_fit(self):
        met = set()
        for size in (3, 5, 12):
            for many in (2, 10, 20):
                for _ in range(6):
                    records = one_changed(RANDOM, drawn_records(RANDOM, NAMES[:size], many))
                    found = possible_kinds(tuple(without_kind(record) for record in records))
                    met.add(len(found))
                    self.assertEqual(list(found), sorted(set(found)))
                    for word in found:
                        chosen = tuple((before, kind, behind) for (before, _, behind), kind in zip(records, word))
                        order = find_order(chosen)
                        self.assertTrue(all(explains(order, record) for record in chosen))
                    if not found:
                        # Only passes that leave the same person last can be of the same kind.
                        last = records[0][2][-1]
                        chosen = tuple(
                            (before, "T" if behind[-1] == last else "S", behind) for before, _, behind in records
                        )
                        self.assert_same(find_order(chosen), None)
        self.assertEqual(met, {0, 2})

    def test_three_people_held_back(self):
        pairs = tuple((row, row) for row in (("a", "b", "c"), ("a", "c", "b"), ("b", "c", "a")))
        self.assert_same(possible_kinds(pairs), ())

    def test_by_name(self):
        self.assert_same(possible_kinds(pairs=(without_kind(FIRST),)), ("S", "T"))

    def test_errors(self):
        for pairs, index in wrong_pair_tuples():
            self.assert_error(InvalidRecord, "index", index, possible_kinds, pairs)


class Arguments(PromiseCase):
    def test_equal_calls_return_equal_results(self):
        for records in few_records():
            equal = tuple(tuple(list(record)) for record in records)
            self.assert_same(find_order(records), find_order(equal))
            self.assert_same(count_orders(records), count_orders(equal))
            for record in records:
                self.assert_same(comparisons(record), comparisons(tuple(list(record))))
            pairs = tuple(without_kind(record) for record in records)
            self.assert_same(possible_kinds(pairs), possible_kinds(tuple(list(pairs))))
            self.assertEqual(records, equal)


if __name__ == "__main__":
    unittest.main()
