"""Clocks: their dots and operations (points 1.7 to 1.9)."""

import itertools
import unittest

from ringheld import clock as clock_file
from ringheld.clock import Clock

# All clocks of these dots are tried, alone and in pairs.
FEW_DOTS = [(0, 1), (0, 2), (0, 3), (2, 1), (2, 2), (2, 4)]
BESIDE = [(client, number) for client in range(4) for number in range(1, 7)]


def subsets(dots):
    return [set(some) for many in range(len(dots) + 1) for some in itertools.combinations(dots, many)]


def numbers_of(dots, client):
    return sorted({number for of, number in dots if of == client})


def row_of(dots, client):
    """Return the row of point 1.8, counted dot by dot."""
    numbers = numbers_of(dots, client)
    upto = 0
    while upto + 1 in numbers:
        upto += 1
    return (client, upto, tuple([number for number in numbers if number > upto + 1]))


def value_of(dots):
    return tuple([row_of(dots, client) for client in sorted({client for client, _ in dots})])


class Making(unittest.TestCase):
    def test_no_dots(self):
        clock = Clock([])
        self.assertEqual(clock.value(), ())
        self.assertEqual(clock.size(), 0)
        self.assertEqual(clock.next_dot(0), (0, 1))
        self.assertIs((0, 1) in clock, False)

    def test_the_clocks_of_the_document(self):
        clock = Clock([(0, 1), (0, 2), (0, 4), (3, 2)])
        self.assertEqual(clock.value(), ((0, 2, (4,)), (3, 0, (2,))))
        clock = Clock([(3, 2), (0, 4), (0, 1), (0, 2), (0, 1)])
        self.assertEqual(clock.value(), ((0, 2, (4,)), (3, 0, (2,))))
        self.assertEqual(clock.size(), 4)
        self.assertEqual(clock.next_dot(0), (0, 5))
        self.assertEqual(clock.with_dot((0, 3)).value(), ((0, 4, ()), (3, 0, (2,))))
        self.assertIs((3, 5) in Clock([(3, 5)]), True)
        self.assertIs((3, 4) in Clock([(3, 5)]), False)

    def test_any_order_and_duplicates(self):
        dots = [(1, 1), (0, 5), (0, 1), (0, 3), (1, 2)]
        for order in itertools.permutations(dots):
            for more in ([], [order[0]], list(order), [order[2]] * 3):
                clock = Clock(list(order) + more)
                self.assertEqual(clock.value(), ((0, 1, (3, 5)), (1, 2, ())))
                self.assertEqual(clock.size(), 5)

    def test_clients_ascend_as_numbers(self):
        clock = Clock([(100, 1), (9, 1), (10 ** 12, 2), (0, 1)])
        self.assertEqual(clock.value(), ((0, 1, ()), (9, 1, ()), (100, 1, ()), (10 ** 12, 0, (2,))))

    def test_many_dots(self):
        dots = [(client, number) for client in (7, 3) for number in range(3000, 0, -1)]
        self.assertEqual(Clock(dots).value(), ((3, 3000, ()), (7, 3000, ())))
        odd = tuple(range(3, 3001, 2))
        self.assertEqual(Clock([(3, number) for number in odd[::-1]]).value(), ((3, 0, odd),))

    def test_the_list_is_neither_changed_nor_kept(self):
        dots = [(3, 2), (0, 4), (0, 1), (0, 1)]
        clock = Clock(dots)
        self.assertEqual(dots, [(3, 2), (0, 4), (0, 1), (0, 1)])
        dots.append((0, 2))
        dots[0] = (9, 9)
        self.assertEqual(clock.value(), ((0, 1, (4,)), (3, 0, (2,))))
        self.assertEqual(clock.size(), 3)
        dots.clear()
        self.assertIs((0, 4) in clock, True)

    def test_methods_stand_in_the_class(self):
        self.assertEqual(Clock.__module__, clock_file.__name__)
        for name in ["__contains__", "__or__", "covers", "with_dot", "size", "next_dot", "value", "from_value"]:
            self.assertIn(name, vars(Clock))
        self.assertIsInstance(vars(Clock)["from_value"], staticmethod)


class OneClock(unittest.TestCase):
    def test_value_size_and_dots(self):
        for dots in subsets(FEW_DOTS):
            clock = Clock(list(dots))
            self.assertEqual(clock.value(), value_of(dots))
            self.assertEqual(clock.size(), len(dots))
            for dot in BESIDE:
                self.assertIs(dot in clock, dot in dots, (dot, dots))
                self.assertIs(dot not in clock, dot not in dots, (dot, dots))

    def test_next_dots(self):
        for dots in subsets(FEW_DOTS):
            clock = Clock(list(dots))
            for client in range(4):
                self.assertEqual(clock.next_dot(client), (client, max(numbers_of(dots, client), default=0) + 1))
        self.assertEqual(Clock([(0, 10 ** 12 - 1)]).next_dot(0), (0, 10 ** 12))
        self.assertEqual(Clock([(0, 7)]).next_dot(10 ** 12), (10 ** 12, 1))

    def test_with_dot(self):
        for dots in subsets(FEW_DOTS):
            clock = Clock(list(dots))
            for dot in BESIDE:
                self.assertEqual(clock.with_dot(dot).value(), value_of(dots | {dot}))
                self.assertEqual(clock.value(), value_of(dots))

    def test_with_dot_makes_a_row_whole(self):
        clock = Clock([(0, 1), (0, 3), (0, 4), (0, 6)])
        self.assertEqual(clock.with_dot((0, 2)).value(), ((0, 4, (6,)),))
        self.assertEqual(clock.with_dot((0, 5)).value(), ((0, 1, (3, 4, 5, 6)),))
        self.assertEqual(clock.with_dot((0, 5)).with_dot((0, 2)).value(), ((0, 6, ()),))
        self.assertEqual(clock.with_dot((0, 4)).value(), clock.value())
        self.assertEqual(clock.with_dot((0, 7)).value(), ((0, 1, (3, 4, 6, 7)),))
        self.assertEqual(clock.with_dot((1, 2)).value(), ((0, 1, (3, 4, 6)), (1, 0, (2,))))
        self.assertEqual(clock.value(), ((0, 1, (3, 4, 6)),))

    def test_with_dot_again_and_again(self):
        clock = Clock([])
        for number in range(400, 0, -1):
            clock = clock.with_dot((5, number))
        self.assertEqual(clock.value(), ((5, 400, ()),))


class TwoClocks(unittest.TestCase):
    def test_unions_and_covers(self):
        all_dots = subsets(FEW_DOTS)
        clocks = [Clock(list(dots)) for dots in all_dots]
        for dots, clock in zip(all_dots, clocks):
            for others, other in zip(all_dots, clocks):
                self.assertEqual((clock | other).value(), value_of(dots | others))
                self.assertIs(clock.covers(other), dots >= others, (dots, others))
        for dots, clock in zip(all_dots, clocks):
            self.assertEqual(clock.value(), value_of(dots))

    def test_unions_are_clocks(self):
        one = Clock([(0, 1), (0, 3)])
        union = one | Clock([(0, 2), (0, 5), (1, 1)])
        self.assertEqual(union.size(), 5)
        self.assertEqual(union.next_dot(0), (0, 6))
        self.assertEqual(union.with_dot((0, 4)).value(), ((0, 5, ()), (1, 1, ())))
        self.assertIs((0, 4) in union, False)
        self.assertIs((0, 5) in union, True)
        self.assertIs(union.covers(one), True)
        self.assertIs(one.covers(union), False)

    def test_holes_that_the_other_one_fills(self):
        one = Clock([(0, 1), (0, 3), (0, 5), (0, 7)])
        other = Clock([(0, 2), (0, 4), (0, 8)])
        for union in (one | other, other | one):
            self.assertEqual(union.value(), ((0, 5, (7, 8)),))
        self.assertEqual((one | Clock([(0, 4)])).value(), ((0, 1, (3, 4, 5, 7)),))

    def test_an_upto_goes_over_numbers_of_the_other_one(self):
        one = Clock([(0, 1), (0, 2), (0, 3), (0, 4)])
        other = Clock([(0, 1), (0, 3), (0, 5), (0, 7)])
        for union in (one | other, other | one):
            self.assertEqual(union.value(), ((0, 5, (7,)),))
        self.assertIs(one.covers(Clock([(0, 3)])), True)
        self.assertIs(Clock([(0, 3)]).covers(one), False)

    def test_clients_that_only_one_has(self):
        one, other = Clock([(5, 1), (1, 2)]), Clock([(3, 1), (0, 2)])
        for union in (one | other, other | one):
            self.assertEqual(union.value(), ((0, 0, (2,)), (1, 0, (2,)), (3, 1, ()), (5, 1, ())))
        self.assertIs(one.covers(other), False)
        self.assertIs(other.covers(one), False)

    def test_a_clock_with_itself_and_with_none(self):
        clock, none = Clock([(0, 1), (0, 3), (2, 2)]), Clock([])
        for union in (clock | clock, clock | none, none | clock):
            self.assertEqual(union.value(), ((0, 1, (3,)), (2, 0, (2,))))
        self.assertEqual((none | none).value(), ())
        self.assertIs(clock.covers(clock), True)
        self.assertIs(clock.covers(none), True)
        self.assertIs(none.covers(none), True)
        self.assertIs(none.covers(clock), False)

    def test_neither_clock_changes(self):
        one, other = Clock([(0, 1), (0, 3)]), Clock([(0, 2), (1, 1)])
        union = one | other
        one.covers(other)
        one.with_dot((0, 2))
        further = union | Clock([(0, 4), (7, 1)])
        self.assertEqual(one.value(), ((0, 1, (3,)),))
        self.assertEqual(other.value(), ((0, 0, (2,)), (1, 1, ())))
        self.assertEqual(union.value(), ((0, 3, ()), (1, 1, ())))
        self.assertEqual(further.value(), ((0, 4, ()), (1, 1, ()), (7, 1, ())))


class ManyHoles(unittest.TestCase):
    def test_long_rows(self):
        odd = Clock([(0, number) for number in range(1, 20001, 2)])
        even = Clock([(0, number) for number in range(2, 20001, 2)])
        self.assertEqual(odd.value(), ((0, 1, tuple(range(3, 20001, 2))),))
        self.assertEqual((odd | even).value(), ((0, 20000, ()),))
        self.assertIs((odd | even).covers(odd), True)
        self.assertIs(odd.covers(odd), True)
        self.assertIs(odd.covers(even), False)
        self.assertEqual(odd.size(), 10000)
        self.assertEqual(odd.next_dot(0), (0, 20000))
