"""Kept forms that are made of values (points 1.5, 2.1 and 2.4)."""

import copy
import itertools
import unittest

from ringheld.clock import Clock
from ringheld.errors import BadValue
from ringheld.keep import Keep, empty_keep, piece
from things import TouchyInteger, TouchyString, TouchyTuple, nested, odd_things, shown

LIMIT = 10 ** 12
ENTRY = ((), "flag", 1)
PAIR = ((0, 1), ENTRY)
CLOCK = ((0, 5, (7, 9)), (1, 1, ()), (2, 0, (3,)))
GOOD_VALUES = [
    ((), ()),
    ((), CLOCK),
    ((PAIR,), ((0, 1, ()),)),
    ((PAIR,), CLOCK),
    ((((0, 5), ENTRY), ((0, 7), ENTRY), ((1, 1), ENTRY), ((2, 3), ENTRY)), CLOCK),
    ((((0, 9), (("a",), "value", "x" * 60)),), CLOCK),
    ((((0, 1), ((), "value", 5)), ((0, 2), ((), "value", "5")), ((0, 3), (("a", "b", "c", "d"), "amount", -LIMIT)),
      ((0, 4), ((), "element", "")), ((0, 5), (("x" * 12,), "element", LIMIT))), CLOCK),
    ((), ((0, LIMIT, ()), (1, LIMIT, ()))),
    ((((0, LIMIT), ENTRY), ((LIMIT, LIMIT - 1), ENTRY)), ((0, LIMIT, ()), (3, 0, (LIMIT,)), (LIMIT, LIMIT, ()))),
    (tuple([((client, 3), ENTRY) for client in range(200)]), tuple([(client, 1, (3,)) for client in range(200)])),
]
BAD_DOTS = [(0, 0), (1, 0), (-1, 1), (0, -1), (LIMIT + 1, 1), (0, LIMIT + 1), (True, 1), (0, True), (0,), (),
            (0, 1, 1), [0, 1], "01", (0, "1"), None]
BAD_ENTRIES = [None, (), ((), "flag"), ((), "flag", 1, 1), [(), "flag", 1], ([], "flag", 1), ((), "flag", 2),
               ((), "flag", True), ((), "Flag", 1), ((), "amount", "1"), ((), "amount", LIMIT + 1), ((), 1, "flag"),
               ((), "value", None), ((), "value", "x" * 61), ((), "element", "a\n"), (("a", 1), "flag", 1),
               (("A",), "flag", 1), (("a",) * 5, "flag", 1), ("a", "flag", 1)]


class GoodValues(unittest.TestCase):
    def test_the_kept_form_has_exactly_this_value(self):
        for value in GOOD_VALUES:
            for _ in range(2):
                keep = Keep.from_value(value)
                self.assertIsInstance(keep, Keep)
                self.assertEqual(keep.value(), value)
                self.assertEqual(list(keep), list(value[0]))
                self.assertEqual(len(keep), len(value[0]))
                self.assertEqual(keep.clock.value(), value[1])
                self.assertEqual([keep.entry(dot) for dot, _ in value[0]], [entry for _, entry in value[0]])

    def test_values_of_kept_forms_come_back(self):
        keeps = [empty_keep(), piece(((0, 3), ENTRY, ((0, 1), (1, 2)))), piece(((0, 3), None, ()))]
        keeps.append(keeps[1] | piece(((0, 4), ((), "value", 1), ((0, 3),))))
        for keep in keeps:
            self.assertEqual(Keep.from_value(keep.value()).value(), keep.value())

    def test_they_join_like_others(self):
        keep = Keep.from_value(((PAIR,), ((0, 1, ()),))) | Keep.from_value(((), ((0, 0, (2,)),)))
        self.assertEqual(keep.value(), ((PAIR,), ((0, 2, ()),)))

    def test_kept_forms_of_one_value_have_no_effect_on_each_other(self):
        one, other = Keep.from_value(GOOD_VALUES[3]), Keep.from_value(GOOD_VALUES[3])
        self.assertEqual((one | piece(((5, 1), None, ((0, 1),)))).value(), ((), CLOCK + ((5, 1, ()),)))
        self.assertEqual(one.value(), GOOD_VALUES[3])
        self.assertEqual(other.value(), GOOD_VALUES[3])


class BadValues(unittest.TestCase):
    def refused(self, values):
        for value in values:
            for _ in range(2):
                with self.assertRaises(BadValue, msg=shown(value)):
                    Keep.from_value(value)

    def test_the_example(self):
        self.refused([((((0, 1), (("size",), "value", 42)),), ())])

    def test_pairs_in_another_order_or_twice(self):
        pairs = [((0, 5), ENTRY), ((0, 7), ENTRY), ((1, 1), ENTRY), ((2, 3), ENTRY)]
        for order in itertools.permutations(pairs):
            if list(order) != pairs:
                self.refused([(order, CLOCK)])
        for pair in pairs:
            self.refused([(tuple(sorted(pairs + [pair])), CLOCK), ((pair, pair), CLOCK)])
        self.refused([((((0, 1), ((), "value", 5)), ((0, 1), ((), "value", "5"))), CLOCK)])
        self.refused([((((0, 1), ((), "value", 1)), ((0, 1), ((), "value", 2))), CLOCK)])

    def test_dots_that_are_none(self):
        for dot in BAD_DOTS + odd_things():
            self.refused([(((dot, ENTRY),), CLOCK), ((PAIR, (dot, ENTRY)), CLOCK), (((dot, ENTRY), PAIR), CLOCK)])

    def test_entries_that_are_none(self):
        for entry in BAD_ENTRIES + odd_things():
            self.refused([((((0, 1), entry),), CLOCK), ((PAIR, ((1, 1), entry)), CLOCK)])
            self.refused([((((0, 1), entry), ((0, 2), ENTRY)), CLOCK)])

    def test_clocks_without_one_of_the_dots(self):
        for dot in [(0, 6), (0, 8), (0, 10), (1, 2), (2, 1), (2, 2), (2, 4), (3, 1)]:
            pairs = tuple(sorted([PAIR, (dot, ENTRY), ((2, 3), ENTRY)]))
            self.refused([(pairs, CLOCK), (((dot, ENTRY),), CLOCK)])
        self.refused([((((0, LIMIT), ENTRY),), ((0, LIMIT - 1, ()),)), ((PAIR,), ())])

    def test_clocks_that_are_not_well_formed(self):
        clocks = [((0, 1, ()), (0, 1, ())), ((1, 1, ()), (0, 1, ())), ((0, 1, (2,)),), ((0, 1, (4, 3)),),
                  ((0, 1, ()), (1, 0, ())), [(0, 1, ())], ([0, 1, ()],), ((0, 1, []),), ((0, 1, [3]),), ((0, 1),),
                  ((0, 1, (), ()),), ((0, LIMIT + 1, ()),), ((0, True, ()),), ((False, 1, ()),), (0, 1, ()), None, 0]
        for clock in clocks + odd_things():
            self.refused([((PAIR,), clock), ((), clock), (PAIR, clock)])

    def test_too_few_and_too_many_parts(self):
        self.refused([(), ((),), ((), (), ()), ((PAIR,),), ((PAIR,), CLOCK, ()), (PAIR, CLOCK), PAIR, (CLOCK,)])
        self.refused([((((0, 1),),), CLOCK), ((((0, 1), ENTRY, ()),), CLOCK), ((((0, 1), ENTRY, 1),), CLOCK)])
        self.refused([(((),), CLOCK), ((ENTRY,), CLOCK), (((0, 1), ENTRY), CLOCK), (CLOCK, (PAIR,))])

    def test_lists_in_the_place_of_tuples(self):
        self.refused([[(PAIR,), CLOCK], [[], ()], ([PAIR], CLOCK), ([], ()), ((), []), (([(0, 1), ENTRY],), CLOCK)])
        self.refused([((([0, 1], ENTRY),), CLOCK), (((PAIR[0], list(ENTRY)),), CLOCK), ((PAIR,), list(CLOCK))])
        self.refused([((PAIR, [(1, 1), ENTRY]), CLOCK), ((((0, 1), ([], "flag", 1)),), CLOCK)])

    def test_any_other_object(self):
        for thing in odd_things() + ["", "ab", 0, 1, -1, (0, 1), nested(tuple, 2), nested(tuple, 55), nested(list, 55)]:
            self.refused([thing, (thing, CLOCK), (thing, ()), ((thing,), CLOCK), ((PAIR, thing), CLOCK)])
            self.refused([((thing, PAIR), CLOCK), (thing, thing), ((PAIR,), CLOCK, thing)])

    def test_things_that_must_not_be_looked_into(self):
        self.refused([TouchyTuple(((), ())), (TouchyTuple(()), ()), ((), TouchyTuple(())), (TouchyTuple((PAIR,)), CLOCK)])
        self.refused([((TouchyTuple(PAIR),), CLOCK), (((TouchyTuple((0, 1)), ENTRY),), CLOCK)])
        self.refused([((((TouchyInteger(0), 1), ENTRY),), CLOCK), ((((0, 1), TouchyTuple(ENTRY)),), CLOCK)])
        self.refused([((((0, 1), ((), TouchyString("flag"), 1)),), CLOCK)])

    def test_clocks_and_kept_forms_in_the_place_of_values(self):
        clock, keep = Clock([(0, 1)]), piece((PAIR[0], ENTRY, ()))
        self.refused([clock, keep, ((PAIR,), clock), (keep, CLOCK), (keep, clock), (keep.value(), CLOCK)])

    def test_what_is_passed_stays_as_it_was(self):
        values = [[[PAIR], [(1, 1, [3, 2])]], ((list(PAIR),), CLOCK), ((PAIR,), [(0, 1, ())]), {"b": 1, "a": 2}]
        before = copy.deepcopy(values)
        self.refused(values)
        self.assertEqual(values, before)
