"""Settling (point 8.6)."""

import unittest

from halls import OTHER_POINTS, POINTS, WISH, busy_hall, picture, small_hall
from ringheld import settle as settle_file
from ringheld.audit import audit
from ringheld.hall import Hall
from ringheld.settle import settle
from runs import CALM, FORGETFUL, WILD, Run


class LoggedHall(Hall):
    """A hall that keeps a log of its deeds."""

    def __init__(self, points, **more):
        self.log = []
        Hall.__init__(self, points, **more)


def logged(name):
    def deed(self, *arguments):
        self.log.append((name, *arguments))
        return getattr(Hall, name)(self, *arguments)
    return deed


for deed_name in ("rise", "drop", "begin", "send", "exchange", "deliver", "fall", "forget", "give_up", "enter_ring"):
    setattr(LoggedHall, deed_name, logged(deed_name))


def deliver_by_steps(hall):
    delivered = 0
    while True:
        numbers = sorted(hall.network.numbers())
        if not numbers:
            return delivered
        hall.deliver(numbers[0])
        hall.drop(numbers[0])
        delivered += 1


def settle_by_steps(hall):
    """Settle a hall by the steps of point 8.6, one by one."""
    houses, newest, delivered = hall.house_count(), hall.notary.newest, 0
    for house in range(houses):
        hall.rise(house)
    for number in list(hall.network):
        hall.drop(number)
    for view in range(1, newest + 1):
        for house in range(houses):
            hall.begin(house, view)
        delivered += deliver_by_steps(hall)
    for client in range(hall.client_count()):
        hall.send(client, newest)
        delivered += deliver_by_steps(hall)
        hall.send(client, newest)
        delivered += deliver_by_steps(hall)
    for house in range(1, houses):
        hall.exchange(0, house)
    delivered += deliver_by_steps(hall)
    for house in range(1, houses):
        hall.exchange(house, 0)
    return delivered + deliver_by_steps(hall)


class Settling(unittest.TestCase):
    def check(self, make):
        """Check settling beside the single steps, for two halls that are made in the same way."""
        hall, other = make(), make()
        hall.log, other.log = [], []
        count = settle(hall)
        self.assertEqual(count, settle_by_steps(other))
        self.assertEqual(picture(hall), picture(other))
        self.assertEqual(hall.log, other.log)
        self.assertEqual(count, len([deed for deed in hall.log if deed[0] == "deliver"]))
        self.assertIs(type(count), int)
        self.assertEqual(len(hall.network), 0)
        for house in range(hall.house_count()):
            self.assertIs(hall.is_up(house), True)
        return hall, count

    def hall_with(self, *deeds, **more):
        """Return a hall in which these deeds were done, each a tuple of a name and of arguments."""
        hall = LoggedHall(more.pop("points", POINTS), **more)
        for name, *arguments in deeds:
            if arguments and isinstance(arguments[-1], dict):
                getattr(hall, name)(*arguments[:-1], **arguments[-1])
            else:
                getattr(hall, name)(*arguments)
        return hall

    def test_a_hall_where_nothing_happened(self):
        # Each of the other houses is asked by house 0, and asks house 0; all of this is answered.
        for houses in (3, 5, 9):
            hall, count = self.check(lambda: LoggedHall([(0, 0), (1, 1), (2, 2)], houses=houses))
            self.assertEqual((count, hall.network.sent), (4 * (houses - 1), 4 * (houses - 1)))
            self.assertEqual(hall.book.events(), [])
        hall, count = self.check(lambda: LoggedHall([(0, 0)], copies=1, write=1, read=1, houses=1))
        self.assertEqual(count, 0)

    def test_an_open_wish(self):
        for before in ([], [("send", 0, 0)], [("send", 0, 0), ("deliver", 1), ("deliver", 4), ("fall", 1)]):
            hall, count = self.check(lambda: self.hall_with(("wish", 0, "lamp", WISH), *before))
            self.assertEqual(hall.book.events()[1:], [("ended", 0, 1, (0, 1))])
            self.assertEqual(count, 6 + 16)

    def test_an_open_read(self):
        hall, count = self.check(lambda: self.hall_with(("ask", 1, "lamp")))
        self.assertEqual(hall.book.events()[1:], [("shown", 1, 1, ((), ()))])
        self.assertEqual(count, 6 + 16)

    def test_a_firm_read_needs_both_sends(self):
        hall, count = self.check(lambda: self.hall_with(("ask", 1, "lamp", {"firm": True})))
        self.assertEqual(hall.book.events()[1:], [("shown", 1, 1, ((), ()))])
        self.assertEqual(count, 12 + 16)

    def test_an_open_firm_store(self):
        deeds = [("ask", 1, "lamp", {"firm": True}), ("send", 1, 0)] + [("deliver", number) for number in range(1, 7)]
        hall, count = self.check(lambda: self.hall_with(*deeds))
        self.assertEqual(hall.book.events()[1:], [("shown", 1, 1, ((), ()))])
        self.assertEqual(count, 6 + 16)

    def test_requests_of_every_kind(self):
        deeds = [("wish", 0, "lamp", WISH), ("ask", 1, "lamp", {"firm": True}), ("ask", 2, "lamp"), ("wish", 3, "shoes", WISH)]
        hall, _ = self.check(lambda: self.hall_with(*deeds, clients=4))
        self.assertEqual([event[:3] for event in hall.book][4:],
                         [("ended", 0, 1), ("shown", 1, 1), ("shown", 2, 1), ("ended", 3, 1)])
        for client in range(4):
            self.assertIsNone(hall.client(client).request())
        for house in range(5):
            self.assertEqual(hall.house(house).kept_keys(), ["lamp", "shoes"])

    def test_messages_under_way_are_dropped(self):
        # The store of a wish that was given up is not delivered any more.
        hall, count = self.check(lambda: self.hall_with(("wish", 0, "lamp", WISH), ("send", 0, 0), ("give_up", 0)))
        self.assertEqual(count, 16)
        for house in range(5):
            self.assertEqual(hall.house(house).kept_keys(), [])

    def test_houses_that_are_down(self):
        hall, _ = self.check(lambda: self.hall_with(("wish", 0, "lamp", WISH), *[("fall", house) for house in range(5)]))
        self.assertEqual(hall.book.events()[1:], [("ended", 0, 1, (0, 1))])

    def test_houses_that_have_forgotten(self):
        deeds = [("wish", 0, "lamp", WISH), ("send", 0, 0), *[("deliver", number) for number in range(1, 7)]]
        one, _ = self.check(lambda: self.hall_with(*deeds, ("forget", 1), ("ask", 1, "lamp")))
        self.assertEqual(one.book.events()[-1][:3], ("shown", 1, 1))
        self.assertEqual((one.house(1).floor, one.house(1).opened), (0, []))
        self.assertEqual({one.house(house).keep("lamp").value() for house in range(5)}, {one.client(0).known("lamp").value()})
        hall, _ = self.check(lambda: self.hall_with(*deeds, *[("forget", house) for house in range(5)], ("ask", 1, "lamp")))
        self.assertEqual(hall.book.events()[-1][0], "asked")
        self.assertEqual(hall.client(1).request(), (1, "read", "lamp"))

    def test_several_rings(self):
        rings = [("enter_ring", OTHER_POINTS), ("enter_ring", POINTS[:3]), ("enter_ring", OTHER_POINTS)]
        hall, _ = self.check(lambda: self.hall_with(("wish", 0, "lamp", WISH), *rings, ("ask", 1, "lamp", {"firm": True})))
        self.assertEqual(hall.house(0).opened, [0, 1, 2, 3])
        self.assertEqual(hall.house(4).opened, [1, 2, 3])
        self.assertEqual([event[:3] for event in hall.book][2:], [("ended", 0, 1), ("shown", 1, 1)])
        self.assertEqual(hall.client(1).known("lamp").value(), hall.client(0).known("lamp").value())
        self.assertEqual(audit(hall.book.events()), [])

    def test_a_handover_under_way(self):
        deeds = [("enter_ring", OTHER_POINTS), ("enter_ring", POINTS), ("begin", 4, 1), ("begin", 0, 1), ("fall", 2)]
        hall, _ = self.check(lambda: self.hall_with(*deeds))
        self.assertEqual([hall.house(house).view for house in range(5)], [2] * 5)

    def test_a_hall_where_everything_is_under_way(self):
        hall = busy_hall()
        settle(hall)
        self.assertEqual([hall.house(house).view for house in range(4)], [1, 1, 1, 1])
        self.assertEqual({event[0] for event in hall.book}, {"wished", "asked", "ended", "shown"})
        self.assertEqual(audit(hall.book.events()), [])

    def test_settling_again(self):
        def make():
            hall = self.hall_with(("wish", 0, "lamp", WISH), ("enter_ring", OTHER_POINTS))
            settle(hall)
            return hall
        hall, count = self.check(make)
        self.assertEqual(count, 16)
        self.assertEqual(hall.notary.newest, 1)

    def test_any_runs(self):
        for weights, many in [(CALM, 20), (WILD, 20), (FORGETFUL, 20)]:
            for seed in range(many):
                def make():
                    run = Run(seed, weights, kind=LoggedHall)
                    run.steps(120 + 10 * seed)
                    return run.hall
                self.check(make)

    def test_all_houses_keep_the_same(self):
        for seed in range(60):
            run = Run(seed)
            run.steps(250)
            hall = run.hall
            settle(hall)
            for key in {key for house in range(hall.house_count()) for key in hall.house(house).kept_keys()}:
                values = {hall.house(house).keep(key).value() for house in range(hall.house_count())}
                self.assertEqual(len(values), 1)

    def test_a_small_hall(self):
        hall = small_hall()
        hall.wish(0, "shoes", WISH)
        self.assertEqual(settle(hall), 2 + 4)
        self.assertEqual(hall.house(0).keep("shoes").value(), hall.house(1).keep("shoes").value())

    def test_the_interface_stands_in_the_file(self):
        self.assertEqual(settle.__module__, settle_file.__name__)
