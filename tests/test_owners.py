"""Who owns which places and keys, also when a house comes to a ring or leaves it (points 4.4 to 4.6)."""

import itertools
import random
import unittest

from ringheld.ring import Ring, place_of

LIMIT = 10 ** 12


def owners_of(points, copies, place):
    """Return the owners of a place, by going around the ring place by place."""
    houses, owners = dict(points), []
    for step in range(256):
        house = houses.get((place + step) % 256)
        if house is not None and house not in owners and len(owners) < copies:
            owners.append(house)
    return owners


def any_points(source, most=40, houses=9):
    places = source.sample(range(256), source.randint(1, most))
    return [(place, source.randrange(houses)) for place in places]


def any_ring(source, most=40, houses=9):
    """Return points and copies that make a ring."""
    points = any_points(source, most, houses)
    return points, source.randint(1, min(7, len({house for _, house in points})))


class Owners(unittest.TestCase):
    def check(self, points, copies):
        ring = Ring(points, copies)
        owners = [owners_of(points, copies, place) for place in range(256)]
        for place in range(256):
            self.assertEqual(ring.owners(place), owners[place], place)
            self.assertEqual(len(ring.owners(place)), copies)
        for house in [*ring.houses(), 77, LIMIT - 1]:
            self.assertEqual(ring.places_of(house), [place for place in range(256) if house in owners[place]])

    def test_at_a_point_between_points_and_behind_the_last_one(self):
        ring = Ring([(10, 4), (200, 2), (60, 4), (90, 7)], 2)
        expected = {0: [4, 7], 9: [4, 7], 10: [4, 7], 11: [4, 7], 59: [4, 7], 60: [4, 7], 61: [7, 2], 90: [7, 2],
                    91: [2, 4], 199: [2, 4], 200: [2, 4], 201: [4, 7], 255: [4, 7]}
        for place, owners in expected.items():
            self.assertEqual(ring.owners(place), owners)

    def test_the_ends_of_the_ring(self):
        ring = Ring([(0, 1), (255, 2), (128, 3)], 1)
        self.assertEqual([ring.owners(place) for place in (255, 0, 1, 127, 128, 129, 254)],
                         [[2], [1], [3], [3], [3], [2], [2]])
        ring = Ring([(0, 1), (255, 2), (128, 3)], 3)
        self.assertEqual([ring.owners(place) for place in (255, 0, 1, 129)], [[2, 1, 3], [1, 3, 2], [3, 2, 1], [2, 1, 3]])

    def test_one_point(self):
        for place in (0, 1, 100, 255):
            self.check([(place, 5)], 1)
            self.assertEqual(Ring([(place, 5)], 1).places_of(5), list(range(256)))

    def test_two_points(self):
        for one, other in itertools.permutations([0, 1, 77, 254, 255], 2):
            for copies in (1, 2):
                self.check([(one, 3), (other, LIMIT)], copies)

    def test_several_points_of_one_house_side_by_side(self):
        points = [(place, 5) for place in range(100, 110)] + [(110, 2), (111, 2), (112, 5), (113, 9), (3, 2)]
        for copies in (1, 2, 3):
            self.check(points, copies)
        points = [(place, 5) for place in range(255)] + [(255, 6)]
        for copies in (1, 2):
            self.check(points, copies)

    def test_a_point_at_each_place(self):
        source = random.Random(256)
        self.check([(place, place) for place in range(256)], 7)
        for houses in (1, 2, 3, 8):
            points = [(place, source.randrange(houses)) for place in range(256)]
            for copies in range(1, min(houses, 7) + 1):
                self.check(points, copies)

    def test_any_rings(self):
        for seed in range(150):
            points, copies = any_ring(random.Random(seed))
            self.check(points, copies)

    def test_places_of_a_house_without_a_point(self):
        ring = Ring([(10, 4), (200, 2)], 2)
        for house in (0, 3, 5, LIMIT):
            self.assertEqual(ring.places_of(house), [])

    def test_lists_are_new(self):
        ring = Ring([(10, 4), (200, 2), (60, 4), (90, 7)], 2)
        for read in (lambda: ring.owners(61), lambda: ring.owners_of("shoes"), lambda: ring.places_of(2), ring.houses):
            before = read()
            read().clear()
            read().append(99)
            self.assertEqual(read(), before)
        self.assertEqual([ring.owners(place) for place in range(61, 91)], [[7, 2]] * 30)

    def test_owners_of_keys(self):
        source = random.Random(45)
        for _ in range(20):
            points, copies = any_ring(source)
            ring = Ring(points, copies)
            for key in ["a", "shoes", "lamp", " ", "x" * 20, "A key: 1"]:
                self.assertEqual(ring.owners_of(key), owners_of(points, copies, place_of(key)))

    def test_examples(self):
        ring = Ring([(10, 4), (200, 2), (60, 4), (90, 7)], 2)
        self.assertEqual(place_of("shoes"), 65)
        self.assertEqual([ring.owners(60), ring.owners(61), ring.owners(201)], [[4, 7], [7, 2], [4, 7]])
        self.assertEqual(ring.owners_of("shoes"), [7, 2])
        self.assertEqual(ring.houses(), [2, 4, 7])
        self.assertEqual(ring.places_of(2), list(range(61, 201)))
        self.assertEqual(ring.value(), (2, ((10, 4), (60, 4), (90, 7), (200, 2))))

    def test_two_rings_have_no_effect_on_each_other(self):
        points = [(10, 4), (200, 2), (60, 4), (90, 7)]
        one, other = Ring(points, 2), Ring(points, 3)
        self.assertEqual(one.owners(61), [7, 2])
        self.assertEqual(other.owners(61), [7, 2, 4])
        self.assertEqual(one.owners(61), [7, 2])


class ComingAndLeaving(unittest.TestCase):
    def check(self, before, added, copies):
        """Check point 4.6 for points of one house that are added to a ring."""
        house = added[0][1]
        old, new = Ring(before, copies), Ring(before + added, copies)
        for place in range(256):
            was, now = old.owners(place), new.owners(place)
            without, still = [[other for other in owners if other != house] for owners in (was, now)]
            self.assertIn(still, (without, without[:-1]))
            if house in was:
                self.assertIn(house, now)
            if house not in now:
                self.assertEqual(now, was)
        changed = [place for place in range(256) if old.owners(place) != new.owners(place)]
        self.assertLessEqual(set(changed), set(new.places_of(house)))
        self.assertLessEqual(set(old.places_of(house)), set(new.places_of(house)))

    def test_a_house_that_is_new(self):
        for seed in range(100):
            source = random.Random(seed)
            points, copies = any_ring(source)
            free = sorted(set(range(256)) - set(dict(points)))
            self.check(points, [(place, 50) for place in source.sample(free, source.randint(1, 6))], copies)

    def test_a_house_that_has_points_already(self):
        for seed in range(100):
            source = random.Random(seed)
            points, copies = any_ring(source)
            free = sorted(set(range(256)) - set(dict(points)))
            house = source.choice(points)[1]
            self.check(points, [(place, house) for place in source.sample(free, source.randint(1, 6))], copies)

    def test_a_point_at_each_place(self):
        points = [(20, 1), (100, 2), (101, 1), (180, 3)]
        for place in [place for place in range(256) if place not in dict(points)]:
            for house in (0, 1, 2, 3):
                for copies in (1, 2, 3):
                    self.check(points, [(place, house)], copies)

    def test_the_owners_of_a_ring_that_a_house_comes_to(self):
        old, new = Ring([(0, 1), (100, 2)], 2), Ring([(0, 1), (50, 3), (100, 2)], 2)
        self.assertEqual([old.owners(place) for place in (0, 50, 51, 101)], [[1, 2], [2, 1], [2, 1], [1, 2]])
        self.assertEqual([new.owners(place) for place in (0, 50, 51, 101)], [[1, 3], [3, 2], [2, 1], [1, 3]])
        self.assertEqual(new.places_of(3), list(range(0, 51)) + list(range(101, 256)))
