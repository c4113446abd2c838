"""Clients: what they know, wish, ask, send and give up (points 6.1 to 6.4 and 6.7)."""

import copy
import random
import unittest

from houses import EMPTY, FIRST, GREAT, LIMIT, SECOND, TERMS, THIRD
from models import all_wishes, any_wish, entry_of, overtakes
from ringheld import client as client_file
from ringheld.client import Client
from ringheld.errors import BadValue, Busy, RingError
from ringheld.keep import Keep, empty_keep, piece
from ringheld.quorum import Terms
from ringheld.ring import Ring

RING = Ring([(0, 0), (80, 1), (160, 2), (200, 3)], 3)
OTHER_RING = Ring([(0, 7), (80, 3), (160, 1), (200, 9)], 3)
WISH = ("put", ("size",), 42)


def fetched(client, house, keep, key="lamp"):
    """Let a house answer the fetch that is open, as the client sent it last."""
    return client.handle(("house", house), ("fetched", client.view, client.request()[0], keep.value()))


def client_that_knows(*keeps, number=4, key="lamp"):
    """Return a client that has fetched these kept forms of a key, each with a ticket of its own."""
    client = Client(number, Terms(3, 3, 1))
    for keep in keeps:
        client.ask(key)
        client.send(0, RING)
        fetched(client, RING.owners_of(key)[0], keep, key)
    return client


def state(client, *keys):
    """Return what can be seen of a client."""
    known = {key: client.known(key).value() for key in ("lamp", "shoes", *keys)}
    return (client.number, client.terms, client.view, client.request(), known)


def bodies(sent):
    return [body for _, body in sent]


class AsItIsMade(unittest.TestCase):
    def test_a_new_client(self):
        for number in (0, 4, LIMIT):
            client = Client(number, TERMS)
            self.assertEqual(client.number, number)
            self.assertIs(client.terms, TERMS)
            self.assertIsNone(client.view)
            self.assertIsNone(client.request())
            for key in ("a", "lamp", " ", "x" * 20):
                self.assertIsInstance(client.known(key), Keep)
                self.assertEqual(client.known(key).value(), EMPTY)
            self.assertEqual(client.send(0, RING), [])
            self.assertIsNone(client.give_up())

    def test_the_view_cannot_be_set(self):
        client = Client(4, TERMS)
        with self.assertRaises(AttributeError):
            client.view = 3
        self.assertIsNone(client.view)

    def test_two_clients(self):
        one, other = Client(4, TERMS), Client(5, TERMS)
        one.wish("lamp", WISH)
        one.send(3, RING)
        self.assertEqual(state(other), (5, TERMS, None, None, {"lamp": EMPTY, "shoes": EMPTY}))
        self.assertEqual(other.ask("shoes"), 1)
        other.give_up()
        self.assertEqual((one.request(), one.view), ((1, "wish", "lamp"), 3))

    def test_examples(self):
        client = Client(4, Terms(1, 1, 1))
        self.assertEqual(client.wish("lamp", ("raise", ())), (1, ((4, 1), ((), "flag", 1), ())))
        self.assertEqual(client.send(0, Ring([(9, 2)], 1)),
                         [(("house", 2), ("store", 0, 1, "lamp", ((((4, 1), ((), "flag", 1)),), ((4, 1, ()),))))])
        self.assertEqual(client.handle(("house", 2), ("stored", 0, 1)), ("ended", 1, (4, 1)))
        self.assertIsNone(client.request())

    def test_the_interface_stands_in_the_file_and_in_the_class(self):
        self.assertEqual(Client.__module__, client_file.__name__)
        for name in ("known", "request", "wish", "ask", "give_up", "send", "handle"):
            self.assertIn(name, vars(Client))
        self.assertIsInstance(vars(Client)["view"], property)


class Tickets(unittest.TestCase):
    def test_each_request_has_the_next_ticket(self):
        client = Client(4, TERMS)
        for ticket in range(1, 20):
            taken = [lambda: client.wish("lamp", WISH)[0], lambda: client.ask("lamp"),
                     lambda: client.ask("shoes", firm=True)][ticket % 3]
            self.assertEqual(taken(), ticket)
            self.assertEqual(client.request()[0], ticket)
            client.give_up()
            self.assertIsNone(client.request())

    def test_requests_of_each_kind(self):
        for take, kind in [(lambda client: client.wish("door", WISH), "wish"), (lambda client: client.ask("door"), "read"),
                           (lambda client: client.ask("door", firm=False), "read"),
                           (lambda client: client.ask("door", firm=True), "firm")]:
            client = Client(4, TERMS)
            take(client)
            self.assertEqual(client.request(), (1, kind, "door"))
            self.assertIsNone(client.view)
            client.send(5, RING)
            self.assertEqual((client.request(), client.view), ((1, kind, "door"), 5))

    def test_busy(self):
        for take in (lambda client: client.wish("lamp", WISH), lambda client: client.ask("lamp"),
                     lambda client: client.ask("lamp", firm=True)):
            for is_sent in (False, True):
                client = client_that_knows(FIRST)
                take(client)
                if is_sent:
                    client.send(2, RING)
                before = state(client)
                for again in (lambda: client.wish("lamp", WISH), lambda: client.wish("shoes", ("clear", ())),
                              lambda: client.ask("lamp"), lambda: client.ask("shoes", firm=True)):
                    with self.assertRaises(Busy):
                        again()
                    self.assertEqual(state(client), before)
                client.give_up()
                self.assertEqual(client.ask("lamp"), 3)

    def test_busy_is_an_error_of_the_program(self):
        self.assertTrue(issubclass(Busy, RingError))
        self.assertFalse(issubclass(Busy, BadValue))

    def test_giving_up(self):
        client = Client(4, TERMS)
        self.assertIsNone(client.give_up())
        _, deed = client.wish("lamp", WISH)
        client.send(3, RING)
        known = client.known("lamp").value()
        self.assertIsNone(client.give_up())
        self.assertEqual((client.request(), client.view, client.known("lamp").value()), (None, None, known))
        self.assertEqual(known, piece(deed).value())
        self.assertEqual(client.send(3, RING), [])
        self.assertIsNone(client.give_up())
        self.assertEqual(client.wish("lamp", WISH), (2, ((4, 2), (("size",), "value", 42), ((4, 1),))))

    def test_answers_behind_giving_up_change_nothing(self):
        client = Client(4, Terms(3, 1, 3))
        client.wish("lamp", WISH)
        client.send(0, RING)
        client.give_up()
        before = state(client)
        for house in range(4):
            self.assertIsNone(client.handle(("house", house), ("stored", 0, 1)))
        self.assertEqual(state(client), before)


class Wishes(unittest.TestCase):
    def test_the_deed_of_each_word(self):
        for keep in (empty_keep(), FIRST, SECOND | THIRD, piece(((4, 3), (("a",), "element", 1), ((0, 9),)))):
            for wish in all_wishes() + [WISH]:
                client = client_that_knows(keep)
                over = tuple([dot for dot, entry in keep if overtakes(wish, entry)])
                deed = (keep.clock.next_dot(4), entry_of(wish), over)
                self.assertEqual(client.wish("lamp", wish), (2, deed))
                self.assertEqual(client.known("lamp").value(), (keep | piece(deed)).value())
                self.assertEqual(client.known("shoes").value(), EMPTY)

    def test_dots_of_the_own_number(self):
        keep = piece(((4, 7), None, ((4, 2), (5, 11))))
        self.assertEqual(client_that_knows(keep).wish("lamp", WISH)[1][0], (4, 8))
        self.assertEqual(client_that_knows(keep, number=5).wish("lamp", WISH)[1][0], (5, 12))
        self.assertEqual(client_that_knows(keep, number=6).wish("lamp", WISH)[1][0], (6, 1))
        self.assertEqual(Client(0, TERMS).wish("lamp", WISH)[1][0], (0, 1))

    def test_dots_are_made_for_each_key_apart(self):
        client = Client(4, TERMS)
        for number in range(1, 4):
            for key in ("lamp", "shoes", "Lamp", "lamp "):
                _, deed = client.wish(key, ("add", (), 1))
                self.assertEqual(deed, ((4, number), ((), "amount", 1), ()))
                client.give_up()
        for key in ("lamp", "shoes", "Lamp", "lamp "):
            self.assertEqual(client.known(key).clock.value(), ((4, 3, ()),))
        self.assertEqual(client.known("lam").value(), EMPTY)

    def test_keys_that_are_much_alike(self):
        client, keys = Client(4, TERMS), ["a", "A", "a ", " a", "aa", "x" * 20, "x" * 19, "x" * 19 + "y"]
        for at, key in enumerate(keys):
            self.assertEqual(client.known(key).value(), EMPTY)
            self.assertEqual(client.wish(key, ("put", (), at))[1], ((4, 1), ((), "value", at), ()))
            client.give_up()
        for at, key in enumerate(keys):
            self.assertEqual(list(client.known(key)), [((4, 1), ((), "value", at))])

    def test_a_run_of_wishes(self):
        source = random.Random(62)
        client, known = Client(2, TERMS), empty_keep()
        for number in range(1, 60):
            wish = any_wish(source)
            over = tuple([dot for dot, entry in known if overtakes(wish, entry)])
            self.assertEqual(client.wish("lamp", wish), (number, ((2, number), entry_of(wish), over)))
            known = known | piece(((2, number), entry_of(wish), over))
            self.assertEqual(client.known("lamp").value(), known.value())
            client.give_up()

    def test_great_clocks(self):
        client = client_that_knows(GREAT, number=LIMIT)
        ticket, deed = client.wish("lamp", ("clear", ()))
        self.assertEqual((ticket, deed), (2, ((LIMIT, LIMIT), None, ((0, 7), (1, LIMIT)))))
        self.assertEqual(client.known("lamp").value(), ((), ((0, LIMIT, ()), (1, 0, (5, LIMIT)), (LIMIT, LIMIT, ()))))
        self.assertEqual(bodies(client.send(3, RING))[0], ("store", 3, 2, "lamp", client.known("lamp").value()))

    def test_what_is_passed_stays_as_it_was(self):
        wish = ("put", ("size", "left"), 42)
        before, ring = copy.deepcopy(wish), RING.value()
        client = Client(4, TERMS)
        client.wish("lamp", wish)
        client.send(0, RING)
        self.assertEqual((wish, RING.value()), (before, ring))


class Sending(unittest.TestCase):
    def sends(self, client, view, ring, body):
        """Check that the client sends this body to the owners of the lamp, in their order."""
        expected = [(("house", house), body) for house in ring.owners_of("lamp")]
        self.assertEqual(client.send(view, ring), expected)
        self.assertEqual(client.view, view)

    def test_no_request(self):
        client = Client(4, TERMS)
        for view in (0, 1, LIMIT):
            self.assertEqual(client.send(view, RING), [])
            self.assertIsNone(client.view)

    def test_the_owners_in_their_order(self):
        client = Client(4, TERMS)
        for key in ("lamp", "shoes", "a", "b", "zz", "Z 1"):
            client.ask(key)
            sent = client.send(0, RING)
            self.assertEqual([receiver for receiver, _ in sent], [("house", house) for house in RING.owners_of(key)])
            client.give_up()

    def test_a_wish(self):
        client = client_that_knows(FIRST)
        client.wish("lamp", WISH)
        stored = client.known("lamp").value()
        self.assertEqual(stored, ((((4, 1), (("size",), "value", 42)),), ((0, 1, ()), (4, 1, ()))))
        self.sends(client, 0, RING, ("store", 0, 2, "lamp", stored))

    def test_a_wish_stores_what_was_known_when_it_was_taken_up(self):
        # Nothing that the client learns of another key is stored, and it learns nothing of this one.
        client = client_that_knows(FIRST, key="shoes")
        client.wish("lamp", WISH)
        stored = client.known("lamp").value()
        for view in (0, 4, 0):
            self.sends(client, view, RING, ("store", view, 2, "lamp", stored))

    def test_reads(self):
        for firm in (False, True):
            client = client_that_knows(FIRST)
            client.ask("lamp", firm=firm)
            self.sends(client, 0, RING, ("fetch", 0, 2, "lamp"))

    def test_a_firm_store(self):
        client = Client(4, Terms(3, 2, 2))
        client.ask("lamp", firm=True)
        client.send(3, RING)
        for house, keep in zip(RING.owners_of("lamp"), [FIRST, THIRD]):
            self.assertEqual(client.request(), (1, "firm", "lamp"))
            self.assertIsNone(fetched(client, house, keep))
        self.assertEqual((client.request(), client.view), ((1, "firm store", "lamp"), None))
        stored = (FIRST | THIRD).value()
        self.sends(client, 3, RING, ("store", 3, 1, "lamp", stored))
        self.sends(client, 5, OTHER_RING, ("store", 5, 1, "lamp", stored))

    def test_lists_that_are_returned_are_new(self):
        client = Client(4, Terms(3, 3, 1))
        client.wish("lamp", WISH)
        first = client.send(0, RING)
        first.append(first[0])
        first.clear()
        self.assertEqual(len(client.send(0, RING)), 3)
        for house in RING.owners_of("lamp")[:2]:
            self.assertIsNone(client.handle(("house", house), ("stored", 0, 1)))
        self.assertIsNotNone(client.handle(("house", RING.owners_of("lamp")[2]), ("stored", 0, 1)))

    def test_again_in_the_same_view_counted_houses_stay_counted(self):
        client = Client(4, Terms(3, 3, 1))
        client.wish("lamp", WISH)
        for many, house in enumerate(RING.owners_of("lamp")):
            for _ in range(2):
                self.assertEqual(len(client.send(0, RING)), 3)
            event = client.handle(("house", house), ("stored", 0, 1))
            self.assertEqual(event, ("ended", 1, (4, 1)) if many == 2 else None)

    def test_in_another_view_the_count_begins_anew(self):
        for views in [(0, 1), (1, 0), (0, 7)]:
            client = Client(4, Terms(3, 2, 2))
            client.wish("lamp", WISH)
            first, second, _ = RING.owners_of("lamp")
            client.send(views[0], RING)
            self.assertIsNone(client.handle(("house", first), ("stored", views[0], 1)))
            client.send(views[1], RING)
            self.assertIsNone(client.handle(("house", second), ("stored", views[1], 1)))
            client.send(views[0], RING)
            self.assertEqual(client.view, views[0])
            self.assertIsNone(client.handle(("house", second), ("stored", views[0], 1)))
            self.assertEqual(client.handle(("house", first), ("stored", views[0], 1)), ("ended", 1, (4, 1)))

    def test_the_owners_of_another_view(self):
        client = Client(4, Terms(3, 1, 3))
        client.wish("lamp", WISH)
        client.send(0, RING)
        client.send(1, OTHER_RING)
        owners = OTHER_RING.owners_of("lamp")
        for house in range(10):
            if house not in owners:
                self.assertIsNone(client.handle(("house", house), ("stored", 1, 1)))
        self.assertIsNone(client.handle(("house", owners[0]), ("stored", 0, 1)))
        self.assertEqual(client.handle(("house", owners[0]), ("stored", 1, 1)), ("ended", 1, (4, 1)))

    def test_the_view(self):
        client = Client(4, Terms(3, 1, 3))
        self.assertIsNone(client.view)
        client.wish("lamp", WISH)
        self.assertIsNone(client.view)
        for view in (0, 3, 1, 1):
            client.send(view, RING)
            self.assertEqual(client.view, view)
        client.handle(("house", RING.owners_of("lamp")[0]), ("stored", 1, 1))
        self.assertIsNone(client.view)
        client.ask("lamp")
        self.assertIsNone(client.view)
        client.send(0, RING)
        client.give_up()
        self.assertIsNone(client.view)
