"""The notary (point 5.1)."""

import unittest

from ringheld import notary as notary_file
from ringheld.errors import BadValue, Unknown
from ringheld.notary import Notary
from ringheld.quorum import Terms
from ringheld.ring import Ring

POINTS = [(10, 4), (200, 2), (60, 4), (90, 7)]
TERMS = Terms(2, 2, 1)


def ring_at(place, copies=2):
    return Ring(POINTS + [(place, 9)], copies)


class TheNotary(unittest.TestCase):
    def test_the_first_ring_has_view_0(self):
        ring = Ring(POINTS, 2)
        notary = Notary(ring, TERMS)
        self.assertEqual(notary.newest, 0)
        self.assertEqual(notary.ring(0).value(), ring.value())
        self.assertIs(notary.terms, TERMS)

    def test_each_ring_has_the_next_view(self):
        rings = [ring_at(place) for place in range(100, 130)]
        notary = Notary(rings[0], TERMS)
        for view in range(1, 30):
            self.assertEqual(notary.enter(rings[view]), view)
            self.assertEqual(notary.newest, view)
            for elder in range(view + 1):
                self.assertEqual(notary.ring(elder).value(), rings[elder].value())

    def test_a_ring_may_be_entered_again(self):
        ring = Ring(POINTS, 2)
        notary = Notary(ring, TERMS)
        self.assertEqual([notary.enter(ring), notary.enter(ring_at(5)), notary.enter(ring)], [1, 2, 3])
        self.assertEqual([notary.ring(view).value() == ring.value() for view in range(4)], [True, True, False, True])

    def test_views_that_there_are_not(self):
        notary = Notary(Ring(POINTS, 2), TERMS)
        for many in range(3):
            for view in (-1, -2, -3, -10 ** 12, many + 1, many + 2, 10 ** 12):
                with self.assertRaises(Unknown):
                    notary.ring(view)
            self.assertEqual(notary.newest, many)
            notary.enter(ring_at(5))

    def test_a_first_ring_with_other_copies(self):
        for copies in (1, 3):
            with self.assertRaises(BadValue):
                Notary(Ring(POINTS, copies), TERMS)
        for terms in (Terms(1, 1, 1), Terms(3, 2, 2), Terms(10 ** 11, 10 ** 11, 1)):
            with self.assertRaises(BadValue):
                Notary(Ring(POINTS, 2), terms)

    def test_a_ring_with_other_copies_changes_nothing(self):
        notary = Notary(Ring(POINTS, 2), TERMS)
        for newest in range(3):
            before = [notary.ring(view).value() for view in range(newest + 1)]
            for copies in (1, 3, 4):
                with self.assertRaises(BadValue):
                    notary.enter(ring_at(50, copies))
                self.assertEqual(notary.newest, newest)
                self.assertEqual([notary.ring(view).value() for view in range(newest + 1)], before)
                with self.assertRaises(Unknown):
                    notary.ring(newest + 1)
            self.assertEqual(notary.enter(ring_at(70 + newest)), newest + 1)

    def test_two_notaries(self):
        one, other = Notary(Ring(POINTS, 2), TERMS), Notary(ring_at(5, 3), Terms(3, 2, 2))
        self.assertEqual(one.enter(ring_at(6)), 1)
        self.assertEqual(one.enter(ring_at(7)), 2)
        self.assertEqual(other.newest, 0)
        self.assertEqual(other.enter(ring_at(8, 3)), 1)
        self.assertEqual([one.newest, other.newest], [2, 1])
        self.assertEqual([one.terms.copies, other.terms.copies], [2, 3])
        self.assertEqual(one.ring(1).value(), ring_at(6).value())
        self.assertEqual(other.ring(1).value(), ring_at(8, 3).value())

    def test_the_newest_view_cannot_be_set(self):
        notary = Notary(Ring(POINTS, 2), TERMS)
        with self.assertRaises(AttributeError):
            notary.newest = 4
        self.assertEqual(notary.newest, 0)

    def test_the_interface_stands_in_the_file_and_in_the_class(self):
        self.assertEqual(Notary.__module__, notary_file.__name__)
        for name in ("newest", "enter", "ring"):
            self.assertIn(name, vars(Notary))
        self.assertIsInstance(vars(Notary)["newest"], property)
