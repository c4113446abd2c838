"""Clocks that are made of values, and clocks with a great upto (points 1.8 and 1.10)."""

import itertools
import unittest

from ringheld.clock import Clock
from ringheld.errors import BadValue
from things import TouchyInteger, TouchyTuple, nested, odd_things, shown

LIMIT = 10 ** 12
GOOD_VALUES = [
    (),
    ((0, 1, ()),),
    ((0, 0, (2,)),),
    ((0, 2, (4,)), (3, 0, (2,))),
    ((0, 2, (4, 5, 9)),),
    ((5, 3, ()), (6, 1, (3, LIMIT)), (LIMIT, 0, (2, 3))),
    ((0, LIMIT, ()),),
    ((0, LIMIT - 1, ()),),
    ((0, LIMIT - 2, (LIMIT,)),),
    ((0, LIMIT, ()), (1, LIMIT, ()), (2, LIMIT, ())),
    ((7, 0, (LIMIT,)),),
    ((0, 0, tuple(range(2, 500))),),
    tuple([(client, 1, (3,)) for client in range(300)]),
]


class GoodValues(unittest.TestCase):
    def test_the_clock_has_exactly_this_value(self):
        for value in GOOD_VALUES:
            clock = Clock.from_value(value)
            self.assertIsInstance(clock, Clock)
            self.assertEqual(clock.value(), value)

    def test_the_clock_has_the_dots_of_the_value(self):
        clock = Clock.from_value(((0, 2, (4,)), (3, 0, (2,))))
        dots = [(client, number) for client in range(5) for number in range(1, 8) if (client, number) in clock]
        self.assertEqual(dots, [(0, 1), (0, 2), (0, 4), (3, 2)])
        self.assertEqual(clock.size(), 4)
        self.assertEqual(clock.next_dot(0), (0, 5))
        self.assertEqual(clock.next_dot(3), (3, 3))

    def test_values_of_clocks_come_back(self):
        dots = [(0, 1), (0, 2), (0, 4), (1, 3), (1, 1)]
        for many in range(len(dots) + 1):
            for some in itertools.combinations(dots, many):
                value = Clock(list(some)).value()
                self.assertEqual(Clock.from_value(value).value(), value)

    def test_clocks_of_one_value_have_no_effect_on_each_other(self):
        value = ((0, 1, (3,)),)
        one, other = Clock.from_value(value), Clock.from_value(value)
        self.assertEqual(one.with_dot((0, 2)).value(), ((0, 3, ()),))
        self.assertEqual((one | Clock([(0, 5)])).value(), ((0, 1, (3, 5)),))
        self.assertEqual(other.value(), ((0, 1, (3,)),))
        self.assertEqual(value, ((0, 1, (3,)),))


class BadValues(unittest.TestCase):
    def refused(self, values):
        for value in values:
            with self.assertRaises(BadValue, msg=shown(value)):
                Clock.from_value(value)

    def test_the_example(self):
        self.refused([((0, 2, (3,)),)])

    def test_rows_that_do_not_ascend(self):
        self.refused([((0, 1, ()), (0, 1, ())), ((0, 1, ()), (0, 2, ())), ((1, 1, ()), (0, 1, ()))])
        self.refused([((0, 1, ()), (2, 1, ()), (1, 1, ())), ((0, 1, ()), (1, 1, ()), (0, 1, ()))])
        self.refused([((0, 2, (4,)), (0, 0, (2,))), ((0, 1, ()), (1, 1, ()), (1, 1, ()))])

    def test_rows_without_dots(self):
        self.refused([((0, 0, ()),), ((0, 1, ()), (1, 0, ())), ((0, 0, ()), (1, 1, ()))])

    def test_later_numbers_that_are_not_above(self):
        self.refused([((0, 0, (1,)),), ((0, 0, (1, 2)),), ((0, 2, (3,)),), ((0, 2, (2,)),), ((0, 2, (1,)),)])
        self.refused([((0, 2, (3, 5)),), ((0, 2, (0, 5)),), ((0, 0, (0,)),), ((0, LIMIT, (LIMIT,)),)])
        self.refused([((0, LIMIT - 1, (LIMIT,)),), ((0, 1, ()), (1, 2, (3, 4)))])

    def test_later_numbers_that_do_not_ascend(self):
        self.refused([((0, 0, (3, 2)),), ((0, 0, (2, 2)),), ((0, 1, (3, 5, 4)),), ((0, 1, (3, 5, 5)),)])
        self.refused([((0, 1, (5, 3)),), ((0, 1, (4, 3, 5)),), ((0, 1, (4, 5, 3)),), ((0, 1, (4, 6, 4)),)])

    def test_numbers_out_of_range(self):
        for number in (-1, -LIMIT, -LIMIT - 1, LIMIT + 1, 10 ** 30):
            self.refused([((number, 1, ()),), ((0, number, ()),), ((0, number, (LIMIT,)),), ((0, 0, (number,)),)])
            self.refused([((0, 0, (2, number)),), ((0, 0, (number, 5)),), ((0, 1, ()), (number, 1, ()))])

    def test_other_things_in_any_place(self):
        for thing in odd_things() + ["", "1", "01", ["1"], [], (0, 1), ((),)]:
            self.refused([((thing, 1, ()),), ((0, thing, ()),), ((0, thing, (2,)),), ((0, 1, (thing,)),)])
            self.refused([((0, 1, (3, thing)),), ((0, 1, (thing, 3)),), (thing,), ((0, 1, ()), thing)])
            self.refused([(thing, (3, 1, ())), ((0, 1, ()), (thing, 1, ())), ((thing, thing, thing),)])
            self.refused([((0, 1, thing),), ((0, 0, thing),), ((0, 1, ()), (1, 1, thing))])

    def test_numbers_as_later(self):
        self.refused([((0, 1, 3),), ((0, 1, 0),), ((0, 1, "3"),), ((0, 1, {3: 1}),), ((0, 1, range(3, 4)),)])

    def test_true_is_not_one(self):
        self.refused([((True, 1, ()),), ((0, True, ()),), ((0, True, (3,)),), ((False, 1, ()),), ((0, False, (2,)),)])

    def test_too_few_and_too_many_parts(self):
        self.refused([((),), ((0,),), ((0, 1),), ((0, ()),), ((0, 1, (), ()),), ((0, 1, 3),), ((0, 1, (), 0),)])
        self.refused([(0, 1, ()), (0,), (1, 2, 3), ((0, 1, ()), ()), ((0, 1, ()), (1, 1))])

    def test_lists_in_the_place_of_tuples(self):
        self.refused([[], [(0, 1, ())], ([0, 1, ()],), ((0, 1, []),), ((0, 1, [3]),), [[0, 1, [3]]]])
        self.refused([((0, 1, ()), [1, 1, ()]), ((0, 1, ()), (1, 1, [3]))])

    def test_any_other_object(self):
        things = odd_things() + ["", "a", "abc", 0, 1, -1, ((),), nested(tuple, 2)]
        self.refused(things + [TouchyTuple(()), TouchyTuple([(0, 1, ())]), ((TouchyInteger(0), 1, ()),)])

    def test_what_is_passed_stays_as_it_was(self):
        value = [[1, 1, [3, 2]], [0, 1, []]]
        self.refused([value])
        self.assertEqual(value, [[1, 1, [3, 2]], [0, 1, []]])
        value = ((0, 1, [5, 3]),)
        self.refused([value])
        self.assertEqual(value, ((0, 1, [5, 3]),))


class GreatUptos(unittest.TestCase):
    """None of this ends in the lifetime of a test if the dots of an upto are gone through."""

    def setUp(self):
        self.great = Clock.from_value(((0, LIMIT, ()), (1, 5, (7,)), (2, LIMIT, ())))

    def test_sizes(self):
        self.assertEqual(self.great.size(), 2 * LIMIT + 6)
        clock = Clock.from_value(tuple([(client, LIMIT, ()) for client in range(9)]))
        self.assertEqual(clock.size(), 9 * LIMIT)
        self.assertEqual(Clock.from_value(((0, LIMIT - 2, (LIMIT,)),)).size(), LIMIT - 1)

    def test_dots(self):
        for dot in [(0, 1), (0, LIMIT // 2), (0, LIMIT), (2, LIMIT), (1, 5), (1, 7)]:
            self.assertIs(dot in self.great, True, dot)
        for dot in [(1, 6), (1, 8), (1, LIMIT), (3, 1), (3, LIMIT)]:
            self.assertIs(dot in self.great, False, dot)

    def test_unions_and_covers(self):
        small = Clock([(0, 3), (1, 6), (4, 1)])
        for union in (self.great | small, small | self.great):
            self.assertEqual(union.value(), ((0, LIMIT, ()), (1, 7, ()), (2, LIMIT, ()), (4, 1, ())))
        self.assertEqual((self.great | self.great).value(), self.great.value())
        self.assertIs(self.great.covers(small), False)
        self.assertIs(small.covers(self.great), False)
        self.assertIs((self.great | small).covers(self.great), True)
        self.assertIs(self.great.covers(Clock([(0, 3), (1, 7), (2, LIMIT)])), True)
        self.assertIs(self.great.covers(self.great), True)
        less = Clock.from_value(((0, LIMIT - 1, ()),))
        self.assertIs(self.great.covers(less), True)
        self.assertIs(less.covers(Clock.from_value(((0, LIMIT, ()),))), False)

    def test_with_dot(self):
        self.assertEqual(self.great.with_dot((0, 9)).value(), self.great.value())
        self.assertEqual(self.great.with_dot((1, 6)).value(), ((0, LIMIT, ()), (1, 7, ()), (2, LIMIT, ())))
        clock = Clock.from_value(((0, LIMIT - 2, (LIMIT,)),))
        self.assertEqual(clock.with_dot((0, LIMIT - 1)).value(), ((0, LIMIT, ()),))
        clock = Clock.from_value(((0, LIMIT - 1, ()),))
        self.assertEqual(clock.next_dot(0), (0, LIMIT))
        self.assertEqual(clock.with_dot((0, LIMIT)).value(), ((0, LIMIT, ()),))

    def test_next_dots_of_other_clients(self):
        self.assertEqual(self.great.next_dot(1), (1, 8))
        self.assertEqual(self.great.next_dot(3), (3, 1))

    def test_a_single_later_number(self):
        for clock in (Clock([(7, LIMIT)]), Clock.from_value(((7, 0, (LIMIT,)),))):
            self.assertEqual(clock.value(), ((7, 0, (LIMIT,)),))
            self.assertEqual(clock.size(), 1)
            self.assertIs((7, LIMIT) in clock, True)
            self.assertIs((7, LIMIT - 1) in clock, False)
            self.assertIs((7, 1) in clock, False)
            self.assertEqual(clock.with_dot((7, 1)).value(), ((7, 1, (LIMIT,)),))
            self.assertEqual((clock | Clock([(7, 2)])).value(), ((7, 0, (2, LIMIT)),))
            self.assertIs(clock.covers(Clock([(7, LIMIT)])), True)
            self.assertIs(clock.covers(Clock([(7, LIMIT - 1)])), False)
            self.assertEqual(clock.next_dot(0), (0, 1))
            self.assertIs(Clock.from_value(((7, LIMIT, ()),)).covers(clock), True)
