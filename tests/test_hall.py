"""The hall as it is made, and the errors of its deeds (points 8.1 and 8.4)."""

import itertools
import unittest

from halls import OTHER_POINTS, POINTS, WISH, busy_hall, picture, small_hall
from ringheld import hall as hall_file
from ringheld.client import Client
from ringheld.errors import BadValue, Busy, HouseDown, RingError, Unknown
from ringheld.hall import Hall
from ringheld.house import House
from ringheld.network import Network
from ringheld.book import Book
from ringheld.notary import Notary
from ringheld.quorum import Terms
from things import odd_things, shown

LIMIT = 10 ** 12
NO_NUMBERS = [-1, -2, -5, -LIMIT, 5, 6, 9, LIMIT]
DEEDS = ["wish", "ask", "give_up", "send", "deliver", "drop", "fall", "rise", "forget", "enter_ring", "begin", "exchange"]
# These are no wishes, or no keys. Each of them is refused as both.
NEITHER = [None, True, 5, "", (), ("put",), ("raise", (), 1), [], ["lamp"], {}, "x" * 21, "a\nb", ("put", ("size",), None)]


def numbers_of(terms):
    return (terms.copies, terms.write, terms.read)


class AsItIsMade(unittest.TestCase):
    def check(self, hall, points, houses, clients, numbers):
        """Check all that a new hall is."""
        self.assertEqual((hall.house_count(), hall.client_count()), (houses, clients))
        self.assertIsInstance(hall.terms, Terms)
        self.assertEqual(numbers_of(hall.terms), numbers)
        self.assertIsInstance(hall.notary, Notary)
        self.assertEqual((hall.notary.newest, numbers_of(hall.notary.terms)), (0, numbers))
        self.assertEqual(hall.notary.ring(0).value(), (numbers[0], tuple(sorted(points))))
        self.assertIsInstance(hall.network, Network)
        self.assertEqual((len(hall.network), hall.network.sent), (0, 0))
        self.assertIsInstance(hall.book, Book)
        self.assertEqual(hall.book.events(), [])
        for number in range(houses):
            self.check_house(hall, number, [0] if number in [house for _, house in points] else [])
        for number in range(clients):
            self.check_client(hall, number)
        for number in (-1, -houses, houses, LIMIT):
            for deed in (hall.house, hall.is_up):
                self.assertRaises(Unknown, deed, number)
        for number in (-1, -clients, clients, LIMIT):
            self.assertRaises(Unknown, hall.client, number)

    def check_house(self, hall, number, opened):
        house = hall.house(number)
        self.assertIsInstance(house, House)
        self.assertIs(hall.house(number), house)
        self.assertIs(hall.is_up(number), True)
        self.assertEqual((house.number, numbers_of(house.terms)), (number, numbers_of(hall.terms)))
        self.assertEqual((house.opened, house.sealed, house.floor, house.kept_keys()), (opened, False, -1, []))

    def check_client(self, hall, number):
        client = hall.client(number)
        self.assertIsInstance(client, Client)
        self.assertIs(hall.client(number), client)
        self.assertEqual((client.number, numbers_of(client.terms)), (number, numbers_of(hall.terms)))
        self.assertEqual((client.request(), client.view, client.known("lamp").value()), (None, None, ((), ())))

    def test_the_default_counts(self):
        self.check(Hall(POINTS), POINTS, 5, 2, (3, 2, 2))

    def test_other_counts(self):
        points = [(0, 0), (128, 0)]
        for houses, clients in itertools.product(range(1, 10), range(1, 5)):
            self.check(Hall(points, copies=1, write=1, read=1, houses=houses, clients=clients), points, houses, clients, (1, 1, 1))

    def test_other_terms(self):
        points = [(10 * house, house) for house in range(9)]
        for copies in range(1, 8):
            for write, read in itertools.product(range(1, copies + 1), repeat=2):
                if write + read > copies:
                    hall = Hall(points, copies=copies, write=write, read=read, houses=9)
                    self.check(hall, points, 9, 2, (copies, write, read))

    def test_houses_that_are_not_in_the_first_ring_have_opened_nothing(self):
        points = [(0, 8), (9, 2), (50, 4)]
        self.check(Hall(points, houses=9), points, 9, 2, (3, 2, 2))
        self.assertEqual([Hall(points, houses=9).house(house).view for house in range(9)],
                         [None, None, 0, None, 0, None, None, None, 0])

    def test_the_list_of_points_stays(self):
        points = list(POINTS)
        hall = Hall(points)
        self.assertEqual(points, POINTS)
        points[0] = (77, 4)
        points.append((78, 9))
        points.clear()
        self.check(hall, POINTS, 5, 2, (3, 2, 2))

    def test_two_halls(self):
        one, other = Hall(POINTS), Hall(POINTS)
        one.wish(0, "lamp", WISH)
        one.send(0, 0)
        one.fall(1)
        one.enter_ring(OTHER_POINTS)
        one.begin(0, 1)
        self.check(other, POINTS, 5, 2, (3, 2, 2))

    def test_the_interface_stands_in_the_file_and_in_the_class(self):
        self.assertEqual(Hall.__module__, hall_file.__name__)
        for name in DEEDS + ["house_count", "client_count", "house", "client", "is_up"]:
            self.assertIn(name, vars(Hall))


class WhatMakesNoHall(unittest.TestCase):
    def refused(self, points, **more):
        with self.assertRaises(BadValue, msg=shown((points, more))):
            Hall(points, **more)

    def test_counts_of_houses_and_clients(self):
        points = [(0, 0)]
        one = {"copies": 1, "write": 1, "read": 1}
        for wrong in [0, -1, 10, 11, LIMIT, -LIMIT, 10 ** 40, True, False, None, "1", "5", 1.0, (), [1], {}] + odd_things():
            self.refused(points, houses=wrong, **one)
        for wrong in [0, -1, 5, 6, LIMIT, -LIMIT, 10 ** 40, True, False, None, "1", "2", 1.0, (), [1], {}] + odd_things():
            self.refused(points, clients=wrong, **one)

    def test_terms_that_are_none(self):
        for name in ("copies", "write", "read"):
            for wrong in [0, -1, 8, LIMIT, LIMIT + 1, True, None, "2", 2.0, (2,), [2]] + odd_things():
                self.refused(POINTS, **{name: wrong})
        for copies, write, read in [(3, 1, 2), (3, 2, 1), (3, 4, 2), (3, 2, 4), (2, 1, 1), (8, 8, 8), (9, 5, 5), (1, 1, 0)]:
            self.refused([(house * 10, house) for house in range(9)], copies=copies, write=write, read=read, houses=9)

    def test_points_that_make_no_ring(self):
        for points in [[], [(0, 0)], [(0, 0), (1, 1)], [(0, 0), (1, 1), (2, 0)], POINTS + [(0, 4)], POINTS + [(256, 4)],
                       POINTS + [(-1, 4)], POINTS + [(7, -1)], POINTS + [(7, True)], POINTS + [(7,)], POINTS + [[7, 4]],
                       POINTS + [None], tuple(POINTS), dict(POINTS), *odd_things()]:
            self.refused(points)

    def test_houses_that_are_not_of_the_hall(self):
        for house in (5, 6, 9, LIMIT):
            self.refused(POINTS + [(7, house)])
        self.refused([(0, 0), (1, 1), (2, 2)], houses=2)
        self.refused([(0, 0), (1, 1)], copies=1, write=1, read=1, houses=1)
        self.assertEqual(Hall([(0, 0), (1, 1), (2, 2)], houses=3).house_count(), 3)


class Errors(unittest.TestCase):
    """Each error of each deed, alone and together with the errors that come later in the order of point 8.4."""

    def refused(self, hall, error, deed, *arguments, **more):
        before = picture(hall)
        with self.assertRaises(RingError, msg=shown((deed, arguments))) as caught:
            getattr(hall, deed)(*arguments, **more)
        self.assertIs(type(caught.exception), error, shown((deed, arguments)))
        self.assertEqual(picture(hall), before, shown((deed, arguments)))

    def test_unknown_clients(self):
        # Client 0 and client 1 have open requests, so that Busy is due, too.
        hall = busy_hall()
        for client in [-1, -2, 2, 3, LIMIT, -LIMIT]:
            self.refused(hall, Unknown, "give_up", client)
            for view in (-1, 0, 1, 2):
                self.refused(hall, Unknown, "send", client, view)
            for key, wish in itertools.product(["lamp", *NEITHER], [WISH, *NEITHER]):
                self.refused(hall, Unknown, "wish", client, key, wish)
            for key, firm in itertools.product(["lamp", *NEITHER], [False, True]):
                self.refused(hall, Unknown, "ask", client, key, firm=firm)

    def test_unknown_houses(self):
        hall = busy_hall()
        for house in NO_NUMBERS:
            for deed in ("fall", "rise", "forget"):
                self.refused(hall, Unknown, deed, house)
            for view in (-1, 0, 1, 2):
                self.refused(hall, Unknown, "begin", house, view)
            for other in [0, 2, *NO_NUMBERS]:
                self.refused(hall, Unknown, "exchange", house, other)
                # House 2 is down.
                self.refused(hall, Unknown, "exchange", other, house)

    def test_unknown_views(self):
        hall = busy_hall()
        for view in [-1, -2, 2, 3, LIMIT, -LIMIT]:
            for client in (0, 1):
                self.refused(hall, Unknown, "send", client, view)
            for house in range(5):
                self.refused(hall, Unknown, "begin", house, view)
        for house in range(5):
            self.refused(hall, Unknown, "begin", house, 0)
        hall = Hall(POINTS)
        self.refused(hall, Unknown, "send", 0, 1)
        self.refused(hall, Unknown, "begin", 0, 1)
        self.refused(hall, Unknown, "begin", 0, 0)
        self.assertEqual(hall.send(0, 0), [])

    def test_unknown_messages(self):
        hall = busy_hall()
        dropped = hall.network.numbers()[:3]
        for number in dropped:
            self.assertEqual(hall.drop(number), [])
        for number in [0, -1, -5, hall.network.sent + 1, LIMIT, -LIMIT, *dropped]:
            self.refused(hall, Unknown, "deliver", number)
            self.refused(hall, Unknown, "drop", number)
        for number in (0, 1):
            self.refused(small_hall(), Unknown, "deliver", number)
            self.refused(small_hall(), Unknown, "drop", number)

    def test_a_house_that_is_down(self):
        hall = busy_hall()
        self.refused(hall, HouseDown, "begin", 2, 1)
        for other in range(5):
            self.refused(hall, HouseDown, "exchange", 2, other)
        number, = hall.exchange(0, 2)
        self.refused(hall, HouseDown, "deliver", number)
        hall.rise(2)
        self.assertEqual(len(hall.deliver(number)), 1)

    def test_no_house_that_is_down_handles_a_message(self):
        hall = busy_hall()
        for house in range(5):
            hall.fall(house)
        for number in hall.network.numbers():
            if hall.network.message(number)[1][0] == "house":
                self.refused(hall, HouseDown, "deliver", number)
            else:
                hall.deliver(number)

    def test_bad_values(self):
        # The clients are busy, or are not.
        for hall in (busy_hall(), Hall(POINTS)):
            for client in (0, 1):
                for key, wish in itertools.product(["lamp", *NEITHER], [WISH, *NEITHER]):
                    if (key, wish) != ("lamp", WISH):
                        self.refused(hall, BadValue, "wish", client, key, wish)
                for key, firm in itertools.product(NEITHER, [False, True]):
                    self.refused(hall, BadValue, "ask", client, key, firm=firm)
            for thing in odd_things():
                self.refused(hall, BadValue, "wish", 0, "lamp", thing)
                self.refused(hall, BadValue, "wish", 0, thing, WISH)
                self.refused(hall, BadValue, "ask", 0, thing)

    def test_busy(self):
        hall = busy_hall()
        for client in (0, 1):
            self.refused(hall, Busy, "wish", client, "lamp", WISH)
            self.refused(hall, Busy, "wish", client, "shoes", ("clear", ()))
            for firm in (False, True):
                self.refused(hall, Busy, "ask", client, "shoes", firm=firm)
            hall.give_up(client)
            self.assertEqual(hall.wish(client, "lamp", WISH), [])

    def test_rings_that_may_not_be_entered(self):
        hall = busy_hall()
        for points in [[], POINTS[:2], POINTS[:1] * 3, POINTS + [(0, 4)], POINTS + [(300, 4)], POINTS + [(7, 5)],
                       POINTS + [(7, LIMIT)], [(0, 0), (1, 1), (2, 0), (3, 1)], tuple(POINTS), *odd_things()]:
            self.refused(hall, BadValue, "enter_ring", points)
        self.assertEqual(hall.enter_ring(POINTS), [])
        self.assertEqual(hall.notary.newest, 2)

    def test_a_ring_needs_the_copies_of_the_terms(self):
        hall = Hall(POINTS, copies=4, write=3, read=2)
        self.refused(hall, BadValue, "enter_ring", POINTS[:3])
        hall.enter_ring(OTHER_POINTS)
        self.assertEqual(hall.notary.ring(1).value(), (4, tuple(OTHER_POINTS)))

    def test_the_errors_are_of_the_program(self):
        kinds = [BadValue, Busy, HouseDown, Unknown]
        for one, other in itertools.permutations(kinds, 2):
            self.assertFalse(issubclass(one, other))
