"""Joins of kept forms, and which of them cover which (points 2.2 and 2.3)."""

import itertools
import unittest

from models import joined, keep_of, value_of
from ringheld.clock import Clock
from ringheld.keep import Keep, empty_keep

LIMIT = 10 ** 12
ENTRIES = {(0, 1): ((), "flag", 1), (0, 2): (("a",), "value", "b"), (3, 1): (("a",), "amount", 4)}
# Of a dot a kept form has nothing, or has it in the clock only, or has a pair for it.
NOTHING, CLOCK_ONLY, PAIR = range(3)


def form(states):
    """Return the tuple (pairs, dots) with these states of the dots of ENTRIES."""
    pairs = {dot: ENTRIES[dot] for dot, state in zip(ENTRIES, states) if state == PAIR}
    return pairs, {dot for dot, state in zip(ENTRIES, states) if state != NOTHING}


FORMS = [form(states) for states in itertools.product(range(3), repeat=len(ENTRIES))]
KEEPS = [keep_of(*one) for one in FORMS]


class EachCase(unittest.TestCase):
    def check(self, one, other, expected):
        for states in ((one, other), (other, one)):
            both = [keep_of(*form([state, NOTHING, NOTHING])) for state in states]
            keep = both[0] | both[1]
            self.assertEqual(keep.value(), value_of(*form([expected, NOTHING, NOTHING])), states)

    def test_neither_has_the_dot(self):
        self.check(NOTHING, NOTHING, NOTHING)

    def test_one_has_the_dot(self):
        self.check(PAIR, NOTHING, PAIR)
        self.check(CLOCK_ONLY, NOTHING, CLOCK_ONLY)

    def test_both_have_the_dot(self):
        self.check(PAIR, PAIR, PAIR)
        self.check(PAIR, CLOCK_ONLY, CLOCK_ONLY)
        self.check(CLOCK_ONLY, CLOCK_ONLY, CLOCK_ONLY)


class ThreeDots(unittest.TestCase):
    def test_joins(self):
        for one, keep in zip(FORMS, KEEPS):
            for other, second in zip(FORMS, KEEPS):
                both = keep | second
                self.assertIsInstance(both, Keep)
                self.assertEqual(both.value(), value_of(*joined(one, other)))
                self.assertEqual(list(both), sorted(joined(one, other)[0].items()))
                self.assertEqual((second | keep).value(), both.value())

    def test_covers(self):
        for keep in KEEPS:
            for other in KEEPS:
                self.assertIs(keep.covers(other), (keep | other).value() == keep.value())

    def test_covers_of_each_case(self):
        covered = {(state, NOTHING) for state in range(3)} | {(CLOCK_ONLY, CLOCK_ONLY), (CLOCK_ONLY, PAIR), (PAIR, PAIR)}
        for states, others in itertools.product(itertools.product(range(3), repeat=3), repeat=2):
            expected = all(pair in covered for pair in zip(states, others))
            self.assertIs(keep_of(*form(states)).covers(keep_of(*form(others))), expected, (states, others))

    def test_any_grouping_and_repetition(self):
        values = {keep.value(): keep for keep in KEEPS}
        for one, other, third in itertools.product(KEEPS, repeat=3):
            left, right = one | other, other | third
            # The join of two of these kept forms is one of them, so the values are looked up here.
            self.assertEqual((values[left.value()] | third).value(), (one | values[right.value()]).value())
        for one, other in itertools.product(KEEPS, repeat=2):
            both = one | other
            for keep in (one, other, both):
                self.assertEqual((both | keep).value(), both.value())
                self.assertEqual((keep | both).value(), both.value())
            self.assertIs(both.covers(one), True)
            self.assertIs(both.covers(other), True)

    def test_both_stay_as_they_were(self):
        for (one, keep), (other, second) in itertools.product(zip(FORMS, KEEPS), repeat=2):
            keep | second
            keep.covers(second)
            self.assertEqual(keep.value(), value_of(*one))
            self.assertEqual(second.value(), value_of(*other))
            self.assertEqual(list(keep), sorted(one[0].items()))


class Chains(unittest.TestCase):
    def test_joins_of_joins(self):
        one = keep_of({(0, 2): ((), "flag", 1)}, [(0, 2)])
        other = keep_of({(0, 1): ((), "amount", 1), (5, 5): ((), "amount", 2)}, [(0, 1), (5, 5)])
        both = one | other
        self.assertEqual(both.entry((0, 1)), ((), "amount", 1))
        self.assertEqual([dot for dot, _ in both], [(0, 1), (0, 2), (5, 5)])
        self.assertEqual(both.clock.value(), ((0, 2, ()), (5, 0, (5,))))
        further = both | keep_of({}, [(0, 1), (0, 3)])
        self.assertEqual(further.value(), value_of({(0, 2): ((), "flag", 1), (5, 5): ((), "amount", 2)},
                                                   [(0, 1), (0, 2), (0, 3), (5, 5)]))
        self.assertEqual(len(both), 3)
        self.assertEqual(len(one), 1)

    def test_a_pair_that_was_given_up_does_not_come_back(self):
        old = keep_of({(0, 1): ((), "flag", 1)}, [(0, 1)])
        new = old | keep_of({}, [(0, 1), (1, 1)])
        for keep in (new, new | old, old | new, old | new | old):
            self.assertEqual(keep.value(), ((), ((0, 1, ()), (1, 1, ()))))
        self.assertIs(new.covers(old), True)
        self.assertIs(old.covers(new), False)

    def test_many_pieces(self):
        keep = empty_keep()
        for number in range(300, 0, -1):
            keep = keep | keep_of({(number % 3, number): ((), "amount", number)}, [(number % 3, number)])
        self.assertEqual(len(keep), 300)
        self.assertEqual(keep.clock.size(), 300)
        self.assertEqual([dot for dot, _ in keep], sorted([(number % 3, number) for number in range(1, 301)]))

    def test_many_pairs(self):
        dots = [(client, number) for client in range(5) for number in range(1, 201)]
        pairs = {dot: ((), "amount", dot[1]) for dot in dots}
        whole = keep_of(pairs, dots)
        odd = keep_of({dot: pairs[dot] for dot in dots if dot[1] % 2}, dots)
        some = keep_of({dot: pairs[dot] for dot in dots[:500]}, dots[:500])
        self.assertEqual((whole | odd).value(), odd.value())
        self.assertEqual((some | whole).value(), whole.value())
        self.assertEqual(len(some | odd), 500)
        self.assertEqual([whole.covers(odd), odd.covers(whole), whole.covers(some), some.covers(whole)],
                         [False, True, True, False])


class GreatUptos(unittest.TestCase):
    """None of this ends in the lifetime of a test if the dots of an upto are gone through."""

    def setUp(self):
        clock = Clock.from_value(((0, LIMIT, ()), (1, LIMIT, ()), (2, 3, (5,))))
        self.great = Keep([((0, LIMIT), ((), "flag", 1)), ((1, 7), ((), "amount", 3))], clock)

    def test_joins(self):
        small = keep_of({(0, 9): ((), "flag", 1), (1, 7): ((), "amount", 3), (2, 4): ((), "value", 1)},
                        [(0, 9), (1, 7), (2, 4)])
        expected = ((((0, LIMIT), ((), "flag", 1)), ((1, 7), ((), "amount", 3)), ((2, 4), ((), "value", 1))),
                    ((0, LIMIT, ()), (1, LIMIT, ()), (2, 5, ())))
        self.assertEqual((self.great | small).value(), expected)
        self.assertEqual((small | self.great).value(), expected)
        self.assertEqual((self.great | self.great).value(), self.great.value())

    def test_one_great_clock_overtakes_what_the_other_one_has(self):
        other = Keep([], Clock.from_value(((0, LIMIT - 1, ()), (1, LIMIT, ()))))
        expected = ((((0, LIMIT), ((), "flag", 1)),), self.great.clock.value())
        self.assertEqual((self.great | other).value(), expected)
        self.assertEqual((other | self.great).value(), expected)

    def test_covers(self):
        self.assertIs(self.great.covers(self.great), True)
        self.assertIs(self.great.covers(empty_keep()), True)
        self.assertIs(empty_keep().covers(self.great), False)
        self.assertIs(self.great.covers(keep_of({(0, 9): ((), "flag", 1)}, [(0, 9)])), True)
        self.assertIs(self.great.covers(keep_of({}, [(1, 7)])), False)
        self.assertIs(self.great.covers(keep_of({}, [(2, 4)])), False)
