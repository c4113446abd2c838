"""What the deeds of a hall do (points 8.2, 8.3 and 8.5)."""

import copy
import unittest

from halls import OTHER_POINTS, POINTS, WISH, busy_hall, deliver_all, kept_in, picture, small_hall
from ringheld.errors import HouseDown
from ringheld.hall import Hall
from ringheld.keep import Keep, piece
from ringheld.messages import is_message

EMPTY = ((), ())
DEED = ((0, 1), (("size",), "value", 42), ())


def messages_of(hall, numbers):
    return [hall.network.message(number) for number in numbers]


def hall_of_four():
    """Return a hall where each key has the owners 0, 1 and 2; house 3 comes to the ring in view 1."""
    hall = Hall([(0, 0), (80, 1), (160, 2)], houses=4)
    hall.enter_ring([(0, 0), (80, 1), (160, 2), (200, 3)])
    return hall


class Requests(unittest.TestCase):
    def test_a_wish(self):
        hall = small_hall(clients=3)
        self.assertEqual(hall.wish(0, "shoes", WISH), [])
        self.assertEqual(hall.wish(2, "shoes", ("raise", ())), [])
        self.assertEqual(hall.book.events(), [("wished", 0, 1, "shoes", DEED),
                                              ("wished", 2, 1, "shoes", ((2, 1), ((), "flag", 1), ()))])
        self.assertEqual([hall.client(client).request() for client in range(3)],
                         [(1, "wish", "shoes"), None, (1, "wish", "shoes")])
        self.assertEqual(hall.client(0).known("shoes").value(), piece(DEED).value())
        self.assertEqual((len(hall.network), hall.network.sent), (0, 0))

    def test_askings(self):
        hall = small_hall(clients=3)
        self.assertEqual([hall.ask(0, "shoes"), hall.ask(1, "lamp", firm=True), hall.ask(2, "lamp", firm=False)], [[], [], []])
        self.assertEqual(hall.book.events(), [("asked", 0, 1, "shoes", False), ("asked", 1, 1, "lamp", True),
                                              ("asked", 2, 1, "lamp", False)])
        self.assertEqual([hall.client(client).request() for client in range(3)],
                         [(1, "read", "shoes"), (1, "firm", "lamp"), (1, "read", "lamp")])

    def test_giving_up(self):
        hall = small_hall(clients=2)
        hall.wish(0, "shoes", WISH)
        for client in (0, 1, 0):
            self.assertEqual(hall.give_up(client), [])
            self.assertIsNone(hall.client(client).request())
        self.assertEqual(hall.book.events(), [("wished", 0, 1, "shoes", DEED)])
        hall.ask(0, "shoes")
        self.assertEqual(hall.book.events()[1:], [("asked", 0, 2, "shoes", False)])

    def test_sending(self):
        hall = Hall(POINTS)
        owners = hall.notary.ring(0).owners_of("lamp")
        self.assertEqual(hall.send(0, 0), [])
        hall.wish(0, "lamp", WISH)
        hall.ask(1, "lamp")
        self.assertEqual(hall.send(0, 0), [1, 2, 3])
        self.assertEqual(hall.send(1, 0), [4, 5, 6])
        self.assertEqual(hall.send(0, 0), [7, 8, 9])
        stored = [(("client", 0), ("house", house), ("store", 0, 1, "lamp", piece(DEED).value())) for house in owners]
        fetched = [(("client", 1), ("house", house), ("fetch", 0, 1, "lamp")) for house in owners]
        self.assertEqual(messages_of(hall, range(1, 10)), stored + fetched + stored)
        self.assertEqual((hall.network.sent, hall.network.numbers()), (9, list(range(1, 10))))

    def test_sending_in_each_view(self):
        hall = Hall(POINTS)
        hall.enter_ring(OTHER_POINTS)
        hall.enter_ring(POINTS)
        hall.ask(0, "lamp")
        for view in (0, 1, 2, 1):
            sent = messages_of(hall, hall.send(0, view))
            owners = hall.notary.ring(view).owners_of("lamp")
            self.assertEqual(sent, [(("client", 0), ("house", house), ("fetch", view, 1, "lamp")) for house in owners])
            self.assertEqual(hall.client(0).view, view)
        self.assertNotEqual(hall.notary.ring(0).owners_of("lamp"), hall.notary.ring(1).owners_of("lamp"))

    def test_sending_to_houses_that_are_down(self):
        hall = Hall(POINTS)
        for house in range(5):
            hall.fall(house)
        hall.ask(0, "lamp")
        sent = hall.send(0, 0)
        self.assertEqual(len(sent), 3)
        for number in sent:
            self.assertRaises(HouseDown, hall.deliver, number)
        self.assertEqual(hall.network.numbers(), sent)


class Events(unittest.TestCase):
    def test_a_wish_and_its_end(self):
        hall = Hall(POINTS)
        hall.wish(0, "lamp", WISH)
        sent = hall.send(0, 0)
        answers = [hall.deliver(number) for number in sent]
        self.assertEqual(answers, [[4], [5], [6]])
        self.assertEqual(messages_of(hall, [4, 5, 6]), [(hall.network.message(number)[1], ("client", 0), ("stored", 0, 1))
                                                        for number in sent])
        self.assertEqual(len(hall.book), 1)
        self.assertEqual([hall.deliver(4), len(hall.book)], [[], 1])
        self.assertEqual([hall.deliver(6), len(hall.book)], [[], 2])
        self.assertEqual([hall.deliver(5), len(hall.book)], [[], 2])
        self.assertEqual(hall.book.events(), [("wished", 0, 1, "lamp", DEED), ("ended", 0, 1, (0, 1))])

    def test_a_read(self):
        hall = small_hall(clients=2)
        hall.wish(0, "shoes", WISH)
        hall.send(0, 0)
        deliver_all(hall)
        hall.ask(1, "shoes")
        number, = hall.send(1, 0)
        answer, = hall.deliver(number)
        self.assertEqual(hall.network.message(answer)[2], ("fetched", 0, 1, piece(DEED).value()))
        self.assertEqual(hall.deliver(answer), [])
        self.assertEqual(hall.book.events()[2:], [("asked", 1, 1, "shoes", False), ("shown", 1, 1, piece(DEED).value())])

    def test_a_firm_read(self):
        hall = small_hall(clients=2)
        hall.wish(0, "shoes", WISH)
        hall.send(0, 0)
        deliver_all(hall)
        hall.ask(1, "shoes", firm=True)
        hall.send(1, 0)
        self.assertEqual(deliver_all(hall), 2)
        self.assertEqual(hall.book.events()[2:], [("asked", 1, 1, "shoes", True)])
        self.assertEqual(hall.client(1).request(), (1, "firm store", "shoes"))
        hall.send(1, 0)
        self.assertEqual(deliver_all(hall), 2)
        self.assertEqual(hall.book.events()[2:], [("asked", 1, 1, "shoes", True), ("shown", 1, 1, piece(DEED).value())])

    def test_events_of_several_clients_in_their_order(self):
        hall = small_hall(clients=4)
        for client in range(4):
            hall.wish(client, "shoes", ("add", (), client))
            hall.send(client, 0)
        for number in (3, 1, 4, 2):
            hall.deliver(number)
        for number in (8, 5, 6, 7):
            hall.deliver(number)
        self.assertEqual([event[:3] for event in hall.book], [("wished", client, 1) for client in range(4)]
                         + [("ended", client, 1) for client in (1, 2, 0, 3)])
        self.assertEqual([event[3] for event in hall.book][4:], [(1, 1), (2, 1), (0, 1), (3, 1)])


class Messages(unittest.TestCase):
    def test_a_message_stays_and_can_be_delivered_again(self):
        hall = Hall(POINTS)
        hall.wish(0, "lamp", WISH)
        number = hall.send(0, 0)[0]
        message = hall.network.message(number)
        for answer in (4, 5, 6):
            self.assertEqual(hall.deliver(number), [answer])
            self.assertEqual(hall.network.message(number), message)
        for answer in (4, 5, 6, 4):
            self.assertEqual(hall.deliver(answer), [])
        self.assertEqual(hall.network.numbers(), [1, 2, 3, 4, 5, 6])
        self.assertEqual(hall.client(0).request(), (1, "wish", "lamp"))

    def test_dropping(self):
        hall = Hall(POINTS)
        hall.ask(0, "lamp")
        hall.send(0, 0)
        hall.deliver(1)
        for number in (2, 4):
            self.assertEqual(hall.drop(number), [])
        self.assertEqual((hall.network.numbers(), hall.network.sent), ([1, 3], 4))
        self.assertEqual(hall.deliver(3), [5])

    def test_nothing_happens_by_itself(self):
        hall = Hall(POINTS)
        hall.wish(0, "lamp", WISH)
        hall.send(0, 0)
        hall.exchange(0, 1)
        for house in range(5):
            self.assertEqual(hall.house(house).kept_keys(), [])
        self.assertEqual(hall.client(0).request(), (1, "wish", "lamp"))
        hall.deliver(1)
        self.assertEqual([house for house in range(5) if hall.house(house).kept_keys()], [hall.network.message(1)[1][1]])

    def test_all_that_is_sent_are_messages(self):
        hall = busy_hall()
        for _ in range(3):
            for number in hall.network.numbers():
                self.assertTrue(is_message(hall.network.message(number)))
                if hall.network.message(number)[1] != ("house", 2):
                    for answer in hall.deliver(number):
                        self.assertEqual(hall.network.message(answer)[0], hall.network.message(number)[1])

    def test_lists_that_are_returned_are_new(self):
        hall = Hall(POINTS)
        hall.ask(0, "lamp")
        for sent in (hall.send(0, 0), hall.deliver(1), hall.exchange(0, 1), hall.drop(2), hall.rise(2), hall.give_up(1)):
            before = picture(hall)
            sent.append(1)
            sent.clear()
            self.assertEqual(picture(hall), before)
        self.assertEqual(hall.send(0, 0), [6, 7, 8])

    def test_what_is_passed_stays_as_it_was(self):
        hall, points, wish = Hall(POINTS), list(OTHER_POINTS), ("put", ("size",), 42)
        before = copy.deepcopy((points, wish))
        hall.enter_ring(points)
        hall.wish(0, "lamp", wish)
        self.assertEqual((points, wish), before)
        points.clear()
        self.assertEqual(hall.notary.ring(1).value(), (3, tuple(OTHER_POINTS)))


class HousesUpAndDown(unittest.TestCase):
    def ups(self, hall):
        return [hall.is_up(house) for house in range(hall.house_count())]

    def test_falling_and_rising(self):
        hall = Hall(POINTS)
        for deed, house, expected in [("fall", 1, [0, 2, 3, 4]), ("fall", 1, [0, 2, 3, 4]), ("fall", 3, [0, 2, 4]),
                                      ("rise", 1, [0, 1, 2, 4]), ("rise", 1, [0, 1, 2, 4]), ("rise", 0, [0, 1, 2, 4]),
                                      ("rise", 3, [0, 1, 2, 3, 4]), ("fall", 1, [0, 2, 3, 4])]:
            self.assertEqual(getattr(hall, deed)(house), [])
            self.assertEqual(self.ups(hall), [house in expected for house in range(5)])
            self.assertIs(type(hall.is_up(0)), bool)

    def test_what_a_house_keeps_stays(self):
        hall = small_hall()
        hall.wish(0, "shoes", WISH)
        hall.send(0, 0)
        deliver_all(hall)
        before = picture([hall.house(house) for house in range(2)])
        for deed in (hall.fall, hall.fall, hall.rise, hall.rise):
            for house in range(2):
                deed(house)
            self.assertEqual(picture([hall.house(house) for house in range(2)]), before)

    def test_rising_while_up_changes_nothing(self):
        hall = hall_of_four()
        hall.begin(3, 1)
        before = picture(hall)
        self.assertEqual(hall.rise(3), [])
        self.assertEqual(picture(hall), before)

    def test_falling_again_changes_nothing(self):
        hall = busy_hall()
        before = picture(hall)
        self.assertEqual(hall.fall(2), [])
        self.assertEqual(picture(hall), before)

    def test_a_fall_gives_up_the_handover(self):
        for falls in (False, True):
            hall = hall_of_four()
            seals = hall.begin(3, 1)
            self.assertEqual(len(seals), 3)
            answers = [hall.deliver(number)[0] for number in seals]
            if falls:
                hall.fall(3)
                hall.rise(3)
            for number in answers:
                self.assertEqual(hall.deliver(number), [])
            self.assertEqual(hall.house(3).opened, [] if falls else [1])

    def test_forgetting_while_up_and_while_down(self):
        for is_up in (False, True):
            for newest in range(3):
                hall = Hall(POINTS)
                hall.wish(0, "lamp", WISH)
                hall.send(0, 0)
                deliver_all(hall)
                for _ in range(newest):
                    hall.enter_ring(POINTS)
                if not is_up:
                    hall.fall(1)
                self.assertEqual(hall.forget(1), [])
                house = hall.house(1)
                self.assertIs(hall.is_up(1), is_up)
                self.assertEqual((house.floor, house.opened, house.sealed, house.kept_keys()), (newest, [], False, []))
                self.assertEqual(hall.house(0).opened, [0])

    def test_the_floor_is_the_newest_view_of_that_moment(self):
        hall = hall_of_four()
        hall.forget(3)
        hall.enter_ring([(0, 0), (80, 1), (160, 2)])
        self.assertEqual(hall.house(3).floor, 1)
        self.assertEqual(hall.begin(3, 1), [])
        self.assertEqual(len(hall.begin(3, 2)), 3)
        self.assertEqual(hall.house(3).opened, [2])

    def test_a_house_that_has_forgotten_while_it_takes_over(self):
        hall = hall_of_four()
        answers = [hall.deliver(number)[0] for number in hall.begin(3, 1)]
        hall.forget(3)
        for number in answers:
            hall.deliver(number)
        self.assertEqual((hall.house(3).opened, hall.house(3).floor), ([], 1))


class Views(unittest.TestCase):
    def test_entering_rings(self):
        hall = Hall(POINTS)
        for view in range(1, 6):
            points = OTHER_POINTS + [(view, view % 5)]
            self.assertEqual(hall.enter_ring(points), [])
            self.assertEqual(hall.notary.newest, view)
            self.assertEqual(hall.notary.ring(view).value(), (3, tuple(sorted(points))))
        self.assertEqual(hall.notary.ring(0).value(), (3, tuple(POINTS)))
        self.assertEqual([hall.house(house).opened for house in range(5)], [[0], [0], [0], [0], []])

    def test_begin(self):
        hall = hall_of_four()
        self.assertEqual(hall.begin(3, 1), [1, 2, 3])
        self.assertEqual(messages_of(hall, [1, 2, 3]), [(("house", 3), ("house", house), ("seal", 0)) for house in range(3)])
        self.assertEqual(hall.begin(1, 1), [4, 5])
        self.assertEqual(messages_of(hall, [4, 5]), [(("house", 1), ("house", house), ("seal", 0)) for house in (0, 2)])
        self.assertIs(hall.house(1).sealed, True)
        self.assertEqual(hall.deliver(2), [6])
        self.assertEqual(messages_of(hall, [6]), [(("house", 1), ("house", 3), ("sealed", 0, ()))])
        self.assertEqual([hall.deliver(6), hall.house(3).opened], [[], []])
        self.assertEqual([hall.deliver(1), hall.deliver(7), hall.house(3).opened], [[7], [], [1]])

    def test_begin_takes_the_rings_of_the_notary(self):
        hall = hall_of_four()
        hall.enter_ring([(0, 3), (80, 1), (160, 2)])
        # House 0 has no place in view 2, and house 3 none in view 0.
        self.assertEqual(messages_of(hall, hall.begin(0, 2)), [(("house", 0), ("house", house), ("seal", 1)) for house in (1, 2, 3)])
        self.assertEqual(hall.house(0).opened, [0, 2])
        self.assertEqual(messages_of(hall, hall.begin(3, 1)), [(("house", 3), ("house", house), ("seal", 0)) for house in (0, 1, 2)])
        self.assertEqual(hall.house(3).opened, [])

    def test_begin_for_a_view_that_is_behind(self):
        hall = hall_of_four()
        hall.enter_ring([(0, 3), (80, 1), (160, 2)])
        hall.begin(0, 2)
        before = picture(hall)
        for view in (1, 2):
            self.assertEqual(hall.begin(0, view), [])
        self.assertEqual(picture(hall), before)

    def test_what_was_stored_is_handed_over(self):
        hall = hall_of_four()
        hall.wish(0, "lamp", WISH)
        hall.send(0, 0)
        deliver_all(hall)
        for house in (3, 0, 1, 2):
            hall.begin(house, 1)
        deliver_all(hall)
        self.assertEqual([hall.house(house).opened for house in range(4)], [[0, 1], [0, 1], [0, 1], [1]])
        for house in range(4):
            self.assertEqual(hall.house(house).keep("lamp").value(), piece(DEED).value())
        hall.ask(1, "lamp")
        hall.send(1, 1)
        deliver_all(hall)
        self.assertEqual(hall.book.events()[-1], ("shown", 1, 1, piece(DEED).value()))

    def test_refusals(self):
        hall = hall_of_four()
        hall.ask(0, "lamp")
        sent = hall.send(0, 1)
        for number in sent:
            answer, = hall.deliver(number)
            self.assertEqual(hall.network.message(answer)[1:], (("client", 0), ("refused", 1, 1)))
            self.assertEqual(hall.deliver(answer), [])
        self.assertEqual(len(hall.book), 1)


class Exchanges(unittest.TestCase):
    def test_an_exchange(self):
        hall = small_hall()
        hall.wish(0, "shoes", WISH)
        number, = hall.send(0, 0)
        hall.deliver(number)
        owner = hall.network.message(number)[1][1]
        other = 1 - owner
        news, = hall.exchange(other, owner)
        self.assertEqual(hall.network.message(news), (("house", other), ("house", owner), ("news", ())))
        answer, = hall.deliver(news)
        self.assertEqual(hall.network.message(answer),
                         (("house", owner), ("house", other), ("told", (("shoes", piece(DEED).value()),))))
        self.assertEqual(hall.deliver(answer), [])
        self.assertEqual(hall.house(other).keep("shoes").value(), piece(DEED).value())
        news, = hall.exchange(owner, other)
        self.assertEqual(hall.network.message(news), (("house", owner), ("house", other), ("news", (("shoes", ((0, 1, ()),)),))))
        answer, = hall.deliver(news)
        self.assertEqual(hall.network.message(answer), (("house", other), ("house", owner), ("told", ())))

    def test_an_exchange_with_itself(self):
        hall = small_hall()
        number, = hall.exchange(1, 1)
        self.assertEqual(hall.network.message(number), (("house", 1), ("house", 1), ("news", ())))
        answer, = hall.deliver(number)
        self.assertEqual(hall.network.message(answer), (("house", 1), ("house", 1), ("told", ())))
        self.assertEqual(hall.deliver(answer), [])

    def test_with_a_house_that_is_down(self):
        hall = small_hall()
        hall.fall(1)
        number, = hall.exchange(0, 1)
        self.assertEqual(hall.network.message(number), (("house", 0), ("house", 1), ("news", ())))
        self.assertRaises(HouseDown, hall.deliver, number)
        self.assertRaises(HouseDown, hall.exchange, 1, 1)
        self.assertRaises(HouseDown, hall.exchange, 1, 0)
        hall.rise(1)
        self.assertEqual(len(hall.deliver(number)), 1)

    def test_the_kept_values(self):
        hall = small_hall()
        hall.wish(0, "shoes", WISH)
        self.assertEqual(kept_in(hall), ([{"shoes": EMPTY}, {"shoes": EMPTY}], [{"shoes": piece(DEED).value()}]))
        self.assertIsInstance(hall.house(0).keep("shoes"), Keep)


class Example(unittest.TestCase):
    def test_example(self):
        hall = Hall([(0, 0), (128, 1)], copies=1, write=1, read=1, houses=2, clients=1)
        self.assertEqual(hall.wish(0, "shoes", ("put", ("size",), 42)), [])
        self.assertEqual([hall.send(0, 0), hall.deliver(1), hall.deliver(2)], [[1], [2], []])
        self.assertEqual(hall.book.events(), [("wished", 0, 1, "shoes", ((0, 1), (("size",), "value", 42), ())),
                                              ("ended", 0, 1, (0, 1))])
