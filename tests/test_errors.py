"""The errors (heading ringheld/errors.py of the interface)."""

import unittest

from ringheld import errors
from ringheld.errors import BadValue, Busy, HouseDown, RingError, Unknown

KINDS = [BadValue, Busy, Unknown, HouseDown]


class Errors(unittest.TestCase):
    def test_each_is_a_ring_error_and_a_value_error(self):
        self.assertTrue(issubclass(RingError, ValueError))
        for kind in KINDS:
            self.assertTrue(issubclass(kind, RingError), kind)
            self.assertTrue(issubclass(kind, ValueError), kind)
            self.assertIsNot(kind, RingError)

    def test_none_is_one_of_the_others(self):
        for kind in KINDS:
            for other in KINDS:
                self.assertEqual(issubclass(kind, other), kind is other, (kind, other))

    def test_each_is_made_with_one_string(self):
        for kind in [RingError] + KINDS:
            error = kind("a message")
            self.assertEqual(str(error), "a message")
            self.assertEqual(error.args, ("a message",))

    def test_each_is_caught_as_a_ring_error(self):
        for kind in KINDS:
            with self.assertRaises(RingError) as caught:
                raise kind("a message")
            self.assertIs(caught.exception.__class__, kind)

    def test_each_is_defined_in_its_file(self):
        for kind in [RingError] + KINDS:
            self.assertEqual(kind.__module__, errors.__name__)
