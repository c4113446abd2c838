"""The places of keys, and how rings are made (points 4.1 to 4.3 and 4.7)."""

import copy
import itertools
import random
import unittest

from ringheld import ring as ring_file
from ringheld.errors import BadValue
from ringheld.ring import Ring, place_of
from things import TouchyInteger, TouchyTuple, nested, odd_things, shown

LIMIT = 10 ** 12
SIGNS = [chr(code) for code in range(32, 127) if chr(code) != "%"]
POINTS = [(0, 3), (10, 0), (60, 3), (90, LIMIT), (200, 1), (255, 7)]
BAD_COPIES = [0, -1, 8, 9, 256, LIMIT, -LIMIT, 10 ** 30, True, False, None, "1", "", "3", 1.0, (), (1,), [1], {1: 1}]
BAD_POINTS = [(-1, 0), (256, 0), (1000, 0), (10 ** 30, 0), (True, 0), (False, 0), ("5", 0), (None, 0), (5.0, 0), ((5,), 0),
              (5, -1), (5, LIMIT + 1), (5, True), (5, "0"), (5, None), (5, 1.0), (5, (0,)), (), (5,), (5, 0, 0),
              (5, 0, None), [5, 0], "50", 5, None, {5: 0}, {5, 0}, ((5, 0),)]


def place_by_powers(key):
    """Return the place of a key, from the last character to the first one."""
    total = 7 * 31 ** len(key)
    for at, sign in enumerate(reversed(key)):
        total += ord(sign) * 31 ** at
    return total % 256


class Places(unittest.TestCase):
    def test_the_places_of_the_document(self):
        self.assertEqual(place_of("a"), 58)
        self.assertEqual(place_of("shoes"), 65)

    def check(self, key):
        for _ in range(2):
            self.assertEqual(place_of(key), place_by_powers(key), key)
        self.assertIn(place_of(key), range(256))

    def test_keys_of_one_character(self):
        for sign in SIGNS:
            self.check(sign)
            self.assertEqual(place_of(sign), (217 + ord(sign)) % 256)

    def test_keys_of_twenty_characters(self):
        for sign in SIGNS:
            self.check(sign * 20)
        for key in ["abcdefghijklmnopqrst", "ABCDEFGHIJ0123456789", " " * 19 + "~", "~" + " " * 19]:
            self.check(key)

    def test_one_other_character_at_any_place(self):
        for key in ["lamp", "a", "x" * 20, "A key: 1, and 2 more"]:
            for at, sign in itertools.product(range(len(key)), SIGNS):
                self.check(key[:at] + sign + key[at + 1:])
                if sign == chr(ord(key[at]) + 1):
                    self.assertNotEqual(place_of(key[:at] + sign + key[at + 1:]), place_of(key))

    def test_one_character_more_or_less(self):
        key = "some key of many sig"
        for many in range(1, 21):
            self.check(key[:many])
            self.check(key[-many:])

    def test_the_order_of_the_characters_matters(self):
        self.assertEqual(place_of("ab"), place_by_powers("ab"))
        self.assertNotEqual(place_of("ab"), place_of("ba"))

    def test_each_is_defined_in_its_file(self):
        for thing in (place_of, Ring):
            self.assertEqual(thing.__module__, ring_file.__name__)
        for name in ["copies", "owners", "owners_of", "houses", "places_of", "value", "from_value"]:
            self.assertIn(name, vars(Ring))
        self.assertIsInstance(vars(Ring)["copies"], property)
        self.assertIsInstance(vars(Ring)["from_value"], staticmethod)


class Making(unittest.TestCase):
    def test_points_in_any_order(self):
        for order in itertools.permutations(POINTS):
            ring = Ring(list(order), 3)
            self.assertEqual(ring.value(), (3, tuple(POINTS)))
            self.assertEqual(ring.houses(), [0, 1, 3, 7, LIMIT])
            self.assertEqual(ring.copies, 3)

    def test_one_point(self):
        for place, house in itertools.product((0, 1, 128, 255), (0, 5, LIMIT)):
            ring = Ring([(place, house)], 1)
            self.assertEqual(ring.value(), (1, ((place, house),)))
            self.assertEqual(ring.houses(), [house])

    def test_a_point_at_each_place(self):
        source = random.Random(4)
        for houses in (1, 2, 7, 256):
            points = [(place, place % houses) for place in range(256)]
            mixed = source.sample(points, 256)
            ring = Ring(mixed, min(houses, 7))
            self.assertEqual(ring.value(), (min(houses, 7), tuple(points)))
            self.assertEqual(ring.houses(), list(range(houses)))

    def test_copies_from_one_to_the_houses_at_most_seven(self):
        for houses in range(1, 10):
            points = [(20 * house + 3, house) for house in range(houses)] + [(250, 0), (251, houses - 1)]
            for copies in range(-1, 12):
                if 1 <= copies <= min(houses, 7):
                    self.assertEqual(Ring(points, copies).copies, copies)
                else:
                    with self.assertRaises(BadValue):
                        Ring(points, copies)

    def test_many_points_of_few_houses(self):
        for copies in (2, 3, 7):
            with self.assertRaises(BadValue):
                Ring([(place, 4) for place in range(20)], copies)
        with self.assertRaises(BadValue):
            Ring([(place, place % 2) for place in range(256)], 3)

    def test_houses_are_new_and_ascend(self):
        ring = Ring([(5, 10), (6, 9), (7, 100), (8, 10), (9, 2)], 2)
        self.assertEqual(ring.houses(), [2, 9, 10, 100])
        ring.houses().clear()
        ring.houses().append(4)
        self.assertEqual(ring.houses(), [2, 9, 10, 100])

    def test_the_list_is_neither_changed_nor_kept(self):
        points = POINTS[::-1]
        ring = Ring(points, 2)
        self.assertEqual(points, POINTS[::-1])
        owners = [ring.owners(place) for place in range(256)]
        points.append((100, 50))
        points[0] = (1, 50)
        self.assertEqual(ring.value(), (2, tuple(POINTS)))
        points.clear()
        self.assertEqual(ring.houses(), [0, 1, 3, 7, LIMIT])
        self.assertEqual([ring.owners(place) for place in range(256)], owners)

    def test_copies_cannot_be_set(self):
        ring = Ring(POINTS, 2)
        with self.assertRaises(AttributeError):
            ring.copies = 3
        self.assertEqual(ring.copies, 2)


class Refused(unittest.TestCase):
    def refused(self, points, copies):
        before = [id(point) for point in points] if type(points) is list else []
        with self.assertRaises(BadValue, msg=shown(points)):
            Ring(points, copies)
        if before:
            self.assertEqual([id(point) for point in points], before)

    def test_points_that_are_no_list(self):
        for thing in odd_things() + [tuple(POINTS), dict(POINTS), set(POINTS), "ab", iter(POINTS), 5, (0, 3), Ring(POINTS, 2)]:
            # One of the odd things is a list of a single point, of which there may be one copy only.
            for copies in (2, 0):
                self.refused(thing, copies)

    def test_a_bad_point_at_any_place(self):
        for point in BAD_POINTS + odd_things():
            for at in range(len(POINTS) + 1):
                self.refused(POINTS[:at] + [point] + POINTS[at:], 2)
            self.refused([point], 1)

    def test_odd_things_within_points(self):
        for thing in odd_things() + [nested(tuple, 50), TouchyInteger(5)]:
            self.refused(POINTS + [(5, thing)], 2)
            self.refused(POINTS + [(thing, 5)], 2)
        self.refused([TouchyTuple((5, 0))], 1)

    def test_two_points_with_one_place(self):
        for place, house in POINTS:
            for other in (house, 50):
                for at in range(len(POINTS) + 1):
                    self.refused(POINTS[:at] + [(place, other)] + POINTS[at:], 2)

    def test_copies_that_are_none(self):
        for copies in BAD_COPIES + odd_things() + [TouchyInteger(2)]:
            self.refused(POINTS, copies)
            self.refused([(place, place) for place in range(256)], copies)

    def test_more_copies_than_houses(self):
        self.refused(POINTS, 6)
        self.refused([(10, 4), (60, 4)], 2)
        self.refused(POINTS[:1], 2)

    def test_no_points(self):
        for copies in (1, 2, 7, 0, None):
            self.refused([], copies)

    def test_the_edges_are_not_refused(self):
        self.assertEqual(Ring([(255, LIMIT), (0, 0)], 2).value(), (2, ((0, 0), (255, LIMIT))))


class Values(unittest.TestCase):
    def refused(self, values):
        for value in values:
            for _ in range(2):
                with self.assertRaises(BadValue, msg=shown(value)):
                    Ring.from_value(value)

    def test_values_come_back(self):
        source = random.Random(47)
        for _ in range(100):
            places = source.sample(range(256), source.randint(1, 256))
            points = [(place, source.choice([0, 1, 2, 3, 50, LIMIT])) for place in places]
            ring = Ring(points, source.randint(1, len({house for _, house in points})))
            again = Ring.from_value(ring.value())
            self.assertIsInstance(again, Ring)
            self.assertEqual(again.value(), ring.value())
            self.assertEqual(again.houses(), ring.houses())
            self.assertEqual(again.copies, ring.copies)
            for place in range(0, 256, 17):
                self.assertEqual(again.owners(place), ring.owners(place))

    def test_points_that_do_not_ascend(self):
        for order in itertools.permutations(POINTS[:4]):
            if list(order) != POINTS[:4]:
                self.refused([(2, order)])
        self.refused([(1, ((5, 1), (5, 1))), (1, ((5, 1), (5, 2))), (2, ((5, 1), (6, 2), (6, 3)))])

    def test_lists_in_the_place_of_tuples(self):
        self.refused([[2, tuple(POINTS)], (2, POINTS), [2, POINTS], (2, tuple([list(point) for point in POINTS]))])
        self.refused([(2, tuple(POINTS[:-1] + [[255, 7]])), (2, ([0, 3],) + tuple(POINTS[1:]))])

    def test_too_few_and_too_many_parts(self):
        self.refused([(), (2,), (tuple(POINTS),), (2, tuple(POINTS), ()), (2, 2, tuple(POINTS)), (tuple(POINTS), 2)])
        self.refused([(2, *POINTS), (1, (0, 3)), (1, ()), (0, ()), (1, ((),)), (1, ((5,),)), (1, ((5, 0, 0),))])

    def test_copies_and_points_that_are_none(self):
        for copies in BAD_COPIES + odd_things() + [6]:
            self.refused([(copies, tuple(POINTS))])
        for point in BAD_POINTS + odd_things():
            self.refused([(1, (point,)), (2, tuple(POINTS + [point])), (2, (point,) + tuple(POINTS))])

    def test_any_other_object(self):
        for thing in odd_things() + ["", "ab", 0, 1, (0, 1), nested(tuple, 2), Ring(POINTS, 2)]:
            self.refused([thing, (2, thing), (thing, thing), (2, (thing,)), (2, tuple(POINTS), thing)])
        self.refused([TouchyTuple((2, tuple(POINTS))), (2, TouchyTuple(POINTS)), (TouchyInteger(2), tuple(POINTS))])

    def test_what_is_passed_stays_as_it_was(self):
        values = [[2, POINTS[::-1]], (2, [POINTS[1], POINTS[0]]), {"b": 1, "a": 2}]
        before = copy.deepcopy(values)
        self.refused(values)
        self.assertEqual(values, before)
