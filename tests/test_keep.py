"""Kept forms: how they are made, and what is asked of one (points 2.1, 2.4 and 2.5)."""

import itertools
import unittest

from ringheld import keep as keep_file
from ringheld.clock import Clock
from ringheld.errors import BadValue
from ringheld.keep import Keep, empty_keep, piece
from ringheld.values import is_entry

PAIRS = [((0, 2), ((), "value", "b")), ((0, 10), (("a",), "amount", -5)), ((1, 1), ((), "flag", 1)),
         ((3, 7), (("a", "b"), "element", 4))]
DOTS = [(0, 1), (0, 2), (0, 10), (1, 1), (1, 2), (3, 7), (9, 9)]
CLOCK_VALUE = ((0, 2, (10,)), (1, 2, ()), (3, 0, (7,)), (9, 0, (9,)))
MANY = [((client, number), ((), "amount", number)) for client in range(5) for number in range(1, 14)]


class Making(unittest.TestCase):
    def test_pairs_in_any_order(self):
        for order in itertools.permutations(PAIRS):
            keep = Keep(list(order), Clock(DOTS))
            self.assertEqual(keep.value(), (tuple(PAIRS), CLOCK_VALUE))
            self.assertEqual(list(keep), PAIRS)
            self.assertEqual(len(keep), 4)

    def test_no_pairs(self):
        keep = Keep([], Clock(DOTS))
        self.assertEqual(keep.value(), ((), CLOCK_VALUE))
        self.assertEqual(list(keep), [])
        self.assertEqual(len(keep), 0)
        self.assertEqual(Keep([], Clock([])).value(), ((), ()))

    def test_one_pair(self):
        for pair in PAIRS:
            keep = Keep([pair], Clock([pair[0]]))
            self.assertEqual(keep.value(), ((pair,), Clock([pair[0]]).value()))
            self.assertEqual(len(keep), 1)

    def test_several_dozen_pairs(self):
        keep = Keep(MANY[::-1], Clock([dot for dot, _ in MANY]))
        self.assertEqual(list(keep), MANY)
        self.assertEqual(len(keep), 65)
        self.assertEqual(keep.value(), (tuple(MANY), tuple([(client, 13, ()) for client in range(5)])))
        for dot, entry in MANY:
            self.assertEqual(keep.entry(dot), entry)

    def test_two_pairs_with_one_dot(self):
        for (dot, entry), (_, other) in itertools.product(PAIRS, PAIRS):
            rest = [pair for pair in PAIRS if pair[0] != dot]
            for at in range(len(rest) + 1):
                pairs = rest[:at] + [(dot, other)] + rest[at:]
                for place in range(len(pairs) + 1):
                    with self.assertRaises(BadValue):
                        Keep(pairs[:place] + [(dot, entry)] + pairs[place:], Clock(DOTS))

    def test_two_pairs_with_one_dot_and_items_that_cannot_be_compared(self):
        entries = [((), "value", 5), ((), "value", "5"), ((), "element", 5), ((), "amount", 5)]
        for one, other in itertools.product(entries, entries):
            with self.assertRaises(BadValue):
                Keep([((0, 2), one), ((0, 2), other)], Clock(DOTS))

    def test_a_dot_that_the_clock_does_not_have(self):
        entry = ((), "flag", 1)
        for dot in [(0, 3), (0, 9), (0, 11), (1, 3), (2, 1), (3, 6), (3, 8), (10, 1)]:
            for at in range(len(PAIRS) + 1):
                with self.assertRaises(BadValue):
                    Keep(PAIRS[:at] + [(dot, entry)] + PAIRS[at:], Clock(DOTS))
        with self.assertRaises(BadValue):
            Keep([PAIRS[0]], Clock([]))

    def test_what_is_passed_is_neither_changed_nor_kept(self):
        pairs, clock = PAIRS[::-1], Clock(DOTS)
        keep = Keep(pairs, clock)
        self.assertEqual(pairs, PAIRS[::-1])
        self.assertEqual(clock.value(), CLOCK_VALUE)
        pairs.append(((1, 2), ((), "flag", 1)))
        pairs[0] = ((0, 1), ((), "flag", 1))
        self.assertEqual(keep.value(), (tuple(PAIRS), CLOCK_VALUE))
        pairs.clear()
        self.assertEqual(len(keep), 4)
        self.assertEqual(keep.entry((3, 7)), PAIRS[3][1])
        self.assertIsNone(keep.entry((0, 1)))

    def test_a_list_that_is_refused_stays_as_it_was(self):
        for pairs in (PAIRS[::-1] + [PAIRS[2]], [((5, 5), ((), "flag", 1))] + PAIRS):
            before = list(pairs)
            with self.assertRaises(BadValue):
                Keep(pairs, Clock(DOTS))
            self.assertEqual(pairs, before)

    def test_the_interface_stands_in_the_file_and_in_the_class(self):
        for thing in (Keep, empty_keep, piece):
            self.assertEqual(thing.__module__, keep_file.__name__)
        for name in ["__len__", "__iter__", "clock", "entry", "__or__", "covers", "value", "from_value"]:
            self.assertIn(name, vars(Keep))
        self.assertIsInstance(vars(Keep)["clock"], property)
        self.assertIsInstance(vars(Keep)["from_value"], staticmethod)


class OneKeptForm(unittest.TestCase):
    def setUp(self):
        self.keep = Keep(PAIRS[::-1], Clock(DOTS))

    def test_pairs_are_tuples(self):
        for pair in self.keep:
            self.assertIs(type(pair), tuple)
            self.assertTrue(is_entry(pair[1]))
        self.assertEqual([dot for dot, entry in self.keep], [(0, 2), (0, 10), (1, 1), (3, 7)])

    def test_two_walks_at_once(self):
        both = [(one, other) for one in self.keep for other in self.keep]
        self.assertEqual(both, [(one, other) for one in PAIRS for other in PAIRS])
        first, second = iter(self.keep), iter(self.keep)
        self.assertEqual(next(first), PAIRS[0])
        self.assertEqual(next(first), PAIRS[1])
        self.assertEqual(next(second), PAIRS[0])
        self.assertEqual(list(first), PAIRS[2:])
        self.assertEqual(list(second), PAIRS[1:])
        self.assertEqual(list(self.keep), PAIRS)

    def test_lists_of_it_are_new(self):
        list(self.keep).clear()
        self.assertEqual(list(self.keep), PAIRS)

    def test_entries(self):
        for dot, entry in PAIRS:
            self.assertEqual(self.keep.entry(dot), entry)
        for dot in [(0, 1), (1, 2), (9, 9), (0, 3), (2, 1), (10, 1), (7, 3)]:
            self.assertIsNone(self.keep.entry(dot))

    def test_the_clock(self):
        self.assertIsInstance(self.keep.clock, Clock)
        self.assertEqual(self.keep.clock.value(), CLOCK_VALUE)
        self.assertEqual(self.keep.clock.with_dot((0, 3)).value(), ((0, 3, (10,)),) + CLOCK_VALUE[1:])
        self.assertEqual(self.keep.value(), (tuple(PAIRS), CLOCK_VALUE))
        with self.assertRaises(AttributeError):
            self.keep.clock = Clock([])

    def test_the_value_is_made_of_tuples(self):
        value = self.keep.value()
        self.assertEqual([type(part) for part in value], [tuple, tuple])
        self.assertEqual(self.keep.value(), value)

    def test_great_uptos(self):
        clock = Clock.from_value(((0, 10 ** 12, ()), (1, 10 ** 12 - 2, (10 ** 12,)), (7, 10 ** 12, ())))
        pairs = [((0, 10 ** 12), ((), "flag", 1)), ((1, 5), ((), "flag", 1)), ((1, 10 ** 12), ((), "flag", 1))]
        keep = Keep(pairs, clock)
        self.assertEqual(keep.value(), (tuple(pairs), clock.value()))
        self.assertIsNone(keep.entry((0, 10 ** 12 - 1)))
        self.assertEqual(keep.clock.size(), 3 * 10 ** 12 - 1)
        with self.assertRaises(BadValue):
            Keep([((1, 10 ** 12 - 1), ((), "flag", 1))], clock)


class Pieces(unittest.TestCase):
    entries = [(("size",), "value", 42), ((), "value", "large"), (("a", "b"), "amount", -3), ((), "element", "5"),
               (("c",), "element", 5), (("d",), "flag", 1)]
    overs = [(), ((0, 1),), ((0, 1), (0, 3), (2, 1)), ((0, 5), (3, 3))]

    def test_an_entry_of_each_kind(self):
        for entry, over in itertools.product(self.entries, self.overs):
            for dot in [(0, 2), (0, 9), (1, 1), (5, 4)]:
                keep = piece((dot, entry, over))
                clock_value = Clock([dot, *over]).value()
                self.assertIsInstance(keep, Keep)
                self.assertEqual(keep.value(), (((dot, entry),), clock_value))
                self.assertEqual(list(keep), [(dot, entry)])
                self.assertEqual(len(keep), 1)
                self.assertEqual(keep.entry(dot), entry)
                self.assertEqual([keep.entry(other) for other in over], [None] * len(over))
                self.assertEqual(keep.clock.value(), clock_value)

    def test_no_entry(self):
        for over in self.overs:
            keep = piece(((1, 2), None, over))
            self.assertEqual(keep.value(), ((), Clock([(1, 2), *over]).value()))
            self.assertEqual(len(keep), 0)
            self.assertEqual(list(keep), [])
            self.assertIsNone(keep.entry((1, 2)))

    def test_over_of_several_hundred_dots(self):
        over = tuple([(client, number) for client in range(4) for number in range(1, 201)])
        keep = piece(((1, 201), self.entries[0], over))
        self.assertEqual(keep.value()[0], (((1, 201), self.entries[0]),))
        self.assertEqual(keep.value()[1], ((0, 200, ()), (1, 201, ()), (2, 200, ()), (3, 200, ())))
        keep = piece(((9, 1), None, over[::2]))
        self.assertEqual(keep.value(), ((), Clock([(9, 1), *over[::2]]).value()))
        self.assertEqual(keep.clock.size(), 401)

    def test_the_empty_kept_form(self):
        empty = empty_keep()
        self.assertIsInstance(empty, Keep)
        self.assertEqual(empty.value(), ((), ()))
        self.assertEqual(empty.clock.value(), ())
        self.assertEqual(len(empty), 0)
        self.assertEqual(list(empty), [])
        self.assertIsNone(empty.entry((0, 1)))

    def test_a_piece_and_the_empty_kept_form(self):
        for entry in (self.entries[0], None):
            keep = piece(((0, 1), entry, ()))
            self.assertIs(keep.covers(empty_keep()), True)
            self.assertIs(empty_keep().covers(keep), False)
            self.assertIs(empty_keep().covers(empty_keep()), True)
            self.assertEqual((empty_keep() | keep).value(), keep.value())
            self.assertEqual((keep | empty_keep()).value(), keep.value())

    def test_examples(self):
        first = piece(((0, 1), (("size",), "value", 42), ()))
        self.assertEqual(first.value(), ((((0, 1), (("size",), "value", 42)),), ((0, 1, ()),)))
        second = piece(((1, 1), (("size",), "value", 43), ((0, 1),)))
        joined = ((((1, 1), (("size",), "value", 43)),), ((0, 1, ()), (1, 1, ())))
        self.assertEqual((first | second).value(), joined)
        self.assertIs(second.covers(first), True)
