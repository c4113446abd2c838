"""The answers that clients handle, and the events that they lead to (points 6.5, 6.6 and 6.8)."""

import itertools
import random
import unittest

from houses import EMPTY, FIRST, GREAT, GREATER, LIMIT, SECOND, THIRD, told
from models import any_history
from ringheld.client import Client
from ringheld.history import kept
from ringheld.keep import empty_keep
from ringheld.quorum import Terms
from ringheld.ring import Ring
from test_client import OTHER_RING, RING, WISH, client_that_knows, fetched, state

OWNERS = RING.owners_of("lamp")
ALL_TERMS = [(copies, write, read) for copies, write, read in itertools.product(range(1, 5), repeat=3)
             if write <= copies and read <= copies and write + read > copies]


def stored(client, house):
    return client.handle(("house", house), ("stored", client.view, client.request()[0]))


def client_with(kind, terms=Terms(3, 2, 2)):
    """Return a client that has sent a request of this kind for the lamp in view 3. It knew the first deed."""
    client = Client(4, Terms(1, 1, 1))
    client.ask("lamp")
    client.send(0, Ring([(0, 0)], 1))
    fetched(client, 0, FIRST)
    client.terms = terms
    if kind == "wish":
        client.wish("lamp", WISH)
    else:
        client.ask("lamp", firm=kind != "read")
    client.send(3, RING)
    if kind == "firm store":
        for house in OWNERS[:terms.read]:
            fetched(client, house, THIRD)
        client.send(3, RING)
    assert (client.request(), client.view) == ((2, kind, "lamp"), 3)
    return client


def right_answer(kind, view=3, ticket=2):
    return ("fetched", view, ticket, SECOND.value()) if kind in ("read", "firm") else ("stored", view, ticket)


KINDS = ["wish", "read", "firm", "firm store"]


class WhatDoesNotCount(unittest.TestCase):
    def ignored(self, client, sender, body):
        before = state(client)
        self.assertIsNone(client.handle(sender, body))
        self.assertEqual(state(client), before)

    def goes_on(self, client, kind):
        """Check that no house is counted: exactly two answers are needed still."""
        self.assertIsNone(client.handle(("house", OWNERS[0]), right_answer(kind, client.view)))
        self.assertEqual(client.request(), (2, kind, "lamp"))
        client.handle(("house", OWNERS[1]), right_answer(kind, client.view))
        self.assertNotEqual(client.request(), (2, kind, "lamp"))

    def test_no_request(self):
        for client in (Client(4, Terms(1, 1, 1)), client_that_knows(FIRST)):
            for view, ticket in itertools.product([0, 1], [1, 2]):
                for body in [("stored", view, ticket), ("refused", view, ticket), ("fetched", view, ticket, SECOND.value())]:
                    self.ignored(client, ("house", OWNERS[0]), body)

    def test_before_the_first_send(self):
        for take, kind in [(lambda client: client.wish("lamp", WISH), "wish"), (lambda client: client.ask("lamp"), "read"),
                           (lambda client: client.ask("lamp", firm=True), "firm")]:
            client = client_that_knows(FIRST)
            take(client)
            for view, house in itertools.product([0, 1, 3], OWNERS):
                self.ignored(client, ("house", house), right_answer(kind, view))

    def test_a_firm_store_that_was_not_sent(self):
        client = client_with("firm")
        for house in OWNERS[:2]:
            fetched(client, house, THIRD)
        self.assertEqual(client.request(), (2, "firm store", "lamp"))
        for house in OWNERS:
            self.ignored(client, ("house", house), ("stored", 3, 2))
            self.ignored(client, ("house", house), ("fetched", 3, 2, SECOND.value()))
        client.send(3, RING)
        self.goes_on(client, "firm store")

    def test_another_ticket(self):
        for kind in KINDS:
            client = client_with(kind)
            for ticket, house in itertools.product([1, 3, LIMIT], OWNERS):
                self.ignored(client, ("house", house), right_answer(kind, ticket=ticket))
            self.goes_on(client, kind)

    def test_another_view(self):
        for kind in KINDS:
            client = client_with(kind)
            for view, house in itertools.product([0, 2, 4, LIMIT], OWNERS):
                self.ignored(client, ("house", house), right_answer(kind, view=view))
            self.goes_on(client, kind)

    def test_the_view_in_which_it_was_sent_before(self):
        for kind in KINDS:
            client = client_with(kind)
            client.send(5, RING)
            for house in OWNERS:
                self.ignored(client, ("house", house), right_answer(kind, view=3))
            self.goes_on(client, kind)

    def test_a_house_that_is_no_owner(self):
        for kind in KINDS:
            client = client_with(kind)
            for house in range(12):
                if house not in OWNERS:
                    self.ignored(client, ("house", house), right_answer(kind))
            self.goes_on(client, kind)

    def test_a_house_that_was_an_owner(self):
        owners = OTHER_RING.owners_of("lamp")
        lost = [house for house in OWNERS if house not in owners]
        self.assertGreater(len(lost), 0)
        for kind in KINDS:
            client = client_with(kind)
            client.send(4, OTHER_RING)
            for house in lost:
                self.ignored(client, ("house", house), right_answer(kind, view=4))

    def test_a_house_that_is_counted_already(self):
        for kind in KINDS:
            client = client_with(kind)
            client.handle(("house", OWNERS[2]), right_answer(kind))
            for _ in range(3):
                self.ignored(client, ("house", OWNERS[2]), right_answer(kind))
            self.assertEqual(client.request(), (2, kind, "lamp"))
            client.handle(("house", OWNERS[0]), right_answer(kind))
            self.assertNotEqual(client.request(), (2, kind, "lamp"))

    def test_what_a_counted_house_tells_again_is_not_joined(self):
        client = client_with("read")
        client.handle(("house", OWNERS[0]), ("fetched", 3, 2, SECOND.value()))
        self.ignored(client, ("house", OWNERS[0]), ("fetched", 3, 2, THIRD.value()))

    def test_the_wrong_word(self):
        for kind in KINDS:
            client = client_with(kind)
            wrong = ("stored", 3, 2) if kind in ("read", "firm") else ("fetched", 3, 2, SECOND.value())
            for house, body in itertools.product(OWNERS, [wrong, ("refused", 3, 2)]):
                self.ignored(client, ("house", house), body)
            self.goes_on(client, kind)

    def test_late_answers_to_what_has_ended(self):
        for kind in KINDS:
            client = client_with(kind)
            for house in OWNERS[:2]:
                client.handle(("house", house), right_answer(kind))
            self.ignored(client, ("house", OWNERS[2]), right_answer(kind))


class WhatCounts(unittest.TestCase):
    def test_a_wish_ends_when_write_houses_are_counted(self):
        for numbers in ALL_TERMS:
            terms, ring = Terms(*numbers), Ring([(60 * at, at) for at in range(4)], numbers[0])
            for owners in itertools.permutations(ring.owners_of("lamp")):
                client = Client(4, terms)
                _, deed = client.wish("lamp", WISH)
                client.send(0, ring)
                for house in owners[:terms.write - 1]:
                    self.assertIsNone(stored(client, house))
                    self.assertEqual(client.request(), (1, "wish", "lamp"))
                self.assertEqual(stored(client, owners[terms.write - 1]), ("ended", 1, deed[0]))
                self.assertIsNone(client.request())

    def test_a_read_ends_when_read_houses_are_counted(self):
        for numbers in ALL_TERMS:
            terms, ring = Terms(*numbers), Ring([(60 * at, at) for at in range(4)], numbers[0])
            for owners in itertools.permutations(ring.owners_of("lamp")):
                client = Client(4, terms)
                client.ask("lamp")
                client.send(0, ring)
                for house in owners[:terms.read - 1]:
                    self.assertIsNone(fetched(client, house, FIRST))
                    self.assertEqual(client.request(), (1, "read", "lamp"))
                self.assertEqual(fetched(client, owners[terms.read - 1], THIRD),
                                 ("shown", 1, (FIRST | THIRD if terms.read > 1 else THIRD).value()))
                self.assertIsNone(client.request())

    def test_a_firm_read_ends_behind_its_store(self):
        for numbers in ALL_TERMS:
            terms, ring = Terms(*numbers), Ring([(60 * at, at) for at in range(4)], numbers[0])
            owners, client = ring.owners_of("lamp"), Client(4, terms)
            client.ask("lamp", firm=True)
            client.send(7, ring)
            for house in owners[:terms.read]:
                self.assertEqual((client.request(), client.view), ((1, "firm", "lamp"), 7))
                self.assertIsNone(fetched(client, house, SECOND))
            self.assertEqual((client.request(), client.view), ((1, "firm store", "lamp"), None))
            self.assertEqual(client.send(7, ring), [(("house", house), ("store", 7, 1, "lamp", SECOND.value())) for house in owners])
            for house in owners[:terms.write - 1]:
                self.assertIsNone(stored(client, house))
                self.assertEqual(client.request(), (1, "firm store", "lamp"))
            self.assertEqual(stored(client, owners[terms.write - 1]), ("shown", 1, SECOND.value()))
            self.assertEqual((client.request(), client.view), (None, None))
            self.assertEqual(client.ask("lamp"), 2)

    def test_what_is_fetched_is_joined_as_each_answer_counts(self):
        for firm in (False, True):
            client = client_with("firm" if firm else "read", Terms(3, 1, 3))
            known = FIRST
            for house, keep in zip(OWNERS, [THIRD, empty_keep(), SECOND]):
                event = fetched(client, house, keep)
                known = known | keep
                self.assertEqual(client.known("lamp").value(), known.value())
                self.assertEqual(client.known("shoes").value(), EMPTY)
            self.assertEqual(event, None if firm else ("shown", 2, known.value()))

    def test_what_was_fetched_stays_known_in_another_view(self):
        client = client_with("read")
        fetched(client, OWNERS[0], THIRD)
        client.send(4, RING)
        self.assertEqual(client.known("lamp").value(), (FIRST | THIRD).value())
        for house in OWNERS[:2]:
            event = fetched(client, house, empty_keep())
        self.assertEqual(event, ("shown", 2, (FIRST | THIRD).value()))

    def test_what_was_fetched_stays_known_when_it_is_given_up(self):
        client = client_with("firm")
        fetched(client, OWNERS[0], SECOND)
        client.give_up()
        self.assertEqual(client.known("lamp").value(), (FIRST | SECOND).value())

    def test_a_read_shows_what_the_client_knew_before(self):
        client = Client(4, Terms(3, 3, 1))
        _, deed = client.wish("lamp", WISH)
        client.give_up()
        client.ask("lamp")
        client.send(0, RING)
        self.assertEqual(fetched(client, OWNERS[1], empty_keep()), ("shown", 2, kept([deed]).value()))

    def test_a_stored_answer_teaches_nothing(self):
        client = client_with("wish")
        known = client.known("lamp").value()
        for house in OWNERS[:2]:
            stored(client, house)
            self.assertEqual(client.known("lamp").value(), known)

    def test_the_event_of_a_wish_has_the_dot_of_its_deed(self):
        client = client_that_knows(kept([((4, 8), None, ())]))
        _, deed = client.wish("lamp", ("clear", ()))
        self.assertEqual(deed[0], (4, 9))
        client.send(0, RING)
        events = [stored(client, house) for house in OWNERS]
        self.assertEqual(events, [None, None, ("ended", 2, (4, 9))])

    def test_the_firm_store_in_another_view(self):
        client = client_with("firm store")
        self.assertIsNone(stored(client, OWNERS[0]))
        client.send(9, OTHER_RING)
        owners = OTHER_RING.owners_of("lamp")
        self.assertIsNone(stored(client, owners[0]))
        self.assertEqual(stored(client, owners[2]), ("shown", 2, (FIRST | THIRD).value()))

    def test_great_clocks(self):
        client = client_with("firm")
        self.assertIsNone(fetched(client, OWNERS[0], GREAT))
        self.assertIsNone(fetched(client, OWNERS[1], GREATER))
        expected = (FIRST | GREAT | GREATER).value()
        self.assertEqual(client.send(3, RING)[0][1], ("store", 3, 2, "lamp", expected))
        self.assertIsNone(stored(client, OWNERS[2]))
        self.assertEqual(stored(client, OWNERS[1]), ("shown", 2, expected))

    def test_what_is_passed_stays_as_it_was(self):
        value = (SECOND | THIRD).value()
        pairs = told(lamp=SECOND | THIRD)
        client = client_with("read")
        client.handle(("house", OWNERS[0]), ("fetched", 3, 2, value))
        client.handle(("house", OWNERS[1]), ("fetched", 3, 2, FIRST.value()))
        self.assertEqual((("lamp", value),), pairs)


class AnyRuns(unittest.TestCase):
    """A client that is told anything, beside a plain record of the requests."""

    def setUp(self):
        self.rings = [RING, OTHER_RING, Ring([(10, 2), (100, 7), (200, 3)], 3)]
        self.known = {"lamp": [], "shoes": []}
        self.open = None
        self.tickets = 0

    def take_up(self, source, client):
        key, self.tickets = source.choice(["lamp", "shoes"]), self.tickets + 1
        kind = source.choice(["wish", "read", "firm"])
        self.open = {"kind": kind, "key": key, "view": None, "counted": set(), "dot": None}
        if kind == "wish":
            ticket, deed = client.wish(key, ("add", (), source.randint(-3, 3)))
            self.known[key].append(deed)
            self.open["dot"] = deed[0]
        else:
            ticket = client.ask(key, firm=kind == "firm")
        self.assertEqual(ticket, self.tickets)

    def send(self, source, client):
        view = source.randrange(3)
        if self.open is None:
            self.assertEqual(client.send(view, self.rings[view]), [])
            return
        if self.open["view"] != view:
            self.open.update(view=view, counted=set())
        word = "fetch" if self.open["kind"] in ("read", "firm") else "store"
        sent = client.send(view, self.rings[view])
        self.assertEqual({body[:4] for _, body in sent}, {(word, view, self.tickets, self.open["key"])})
        if word == "store":
            self.assertEqual({body[4] for _, body in sent}, {kept(self.known[self.open["key"]]).value()})

    def tell(self, source, client, deeds):
        """Let a house answer, mostly so that the answer counts, and return the event."""
        view = client.view if client.view is not None and source.random() < 0.8 else source.randrange(3)
        ticket = self.tickets if source.random() < 0.8 else source.randint(1, self.tickets + 1)
        word, house = source.choice(["stored", "fetched", "fetched", "refused"]), source.randrange(10)
        body, part = (word, view, ticket), [deed for deed in deeds if source.random() < 0.4]
        if word == "fetched":
            body = body + (kept(part).value(),)
        return client.handle(("house", house), body), self.expected(house, body, part)

    def expected(self, house, body, part):
        """Return the event that an answer leads to, and change the record."""
        asked = self.open
        if asked is None or asked["view"] is None or body[1:3] != (asked["view"], self.tickets) or house in asked["counted"]:
            return None
        is_fetch = asked["kind"] in ("read", "firm")
        if body[0] != ("fetched" if is_fetch else "stored") or house not in self.rings[body[1]].owners_of(asked["key"]):
            return None
        known = self.known[asked["key"]]
        known.extend([deed for deed in part if is_fetch and deed not in known])
        asked["counted"].add(house)
        if len(asked["counted"]) < 2:
            return None
        if asked["kind"] == "firm":
            asked.update(kind="firm store", view=None)
            return None
        self.open = None
        if asked["kind"] == "wish":
            return ("ended", self.tickets, asked["dot"])
        return ("shown", self.tickets, kept(known).value())

    def check(self, client):
        asked = self.open
        self.assertEqual(client.view, None if asked is None else asked["view"])
        self.assertEqual(client.request(), None if asked is None else (self.tickets, asked["kind"], asked["key"]))
        for key in self.known:
            self.assertEqual(client.known(key).value(), kept(self.known[key]).value())

    def test_any_run(self):
        ended = set()
        for seed in range(30):
            self.setUp()
            source = random.Random(seed)
            client, deeds = Client(7, Terms(3, 2, 2)), any_history(source, 10)
            for _ in range(150):
                if self.open is None and source.random() < 0.6:
                    self.take_up(source, client)
                elif source.random() < 0.25:
                    self.send(source, client)
                elif source.random() < 0.02:
                    self.open = client.give_up()
                elif self.tickets > 0:
                    event, expected = self.tell(source, client, deeds)
                    self.assertEqual(event, expected)
                    ended.add(event and event[0])
                self.check(client)
        self.assertEqual(ended, {None, "ended", "shown"})
