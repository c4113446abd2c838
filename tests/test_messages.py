"""Messages and their bodies (points 7.1 and 7.2)."""

import itertools
import unittest

from ringheld import messages as messages_file
from ringheld.messages import is_body, is_message
from things import Touchy, TouchyString, TouchyTuple, nested, odd_things, shown

LIMIT = 10 ** 12
KINDS = ["client", "house"]
WORDS = {
    "store": ("client", "house", ["view", "ticket", "key", "tuple"]),
    "fetch": ("client", "house", ["view", "ticket", "key"]),
    "stored": ("house", "client", ["view", "ticket"]),
    "refused": ("house", "client", ["view", "ticket"]),
    "fetched": ("house", "client", ["view", "ticket", "tuple"]),
    "seal": ("house", "house", ["view"]),
    "sealed": ("house", "house", ["view", "tuple"]),
    "news": ("house", "house", ["tuple"]),
    "told": ("house", "house", ["tuple"]),
}
GOOD = {
    "view": [0, 1, 7, LIMIT],
    "ticket": [1, 2, 7, LIMIT],
    "key": ["a", "lamp", "Lamp 7~", " ", "x" * 20],
    "tuple": [(), ((), ()), (1, "x", None), ("shoes",), nested(tuple, 60), (Touchy(), len)],
}
WRONG = [-1, -LIMIT, LIMIT + 1, 10 ** 40, True, False, 0.0, 1.0, None, [], {}, [1], {1: 1}, [()], set(), "", "a\nb", "a\tb",
         "x" * 21, "\u00e9", b"a", Touchy(), TouchyString("a"), object(), len, int, iter(()), range(1)]
BAD = {
    "view": WRONG + ["1", "a", (), (1,)],
    "ticket": WRONG + [0, "1", "a", (), (1,)],
    "key": WRONG + [0, 1, (), ("a",), "a" + chr(37)],
    "tuple": WRONG + [0, 1, "a", "()", [1, 2], {"a": ()}],
}


def bodies(word):
    """Return bodies with this word: each item of each kind stands in one of them."""
    kinds = WORDS[word][2]
    many = max(len(GOOD[kind]) for kind in kinds)
    return [(word, *[GOOD[kind][at % len(GOOD[kind])] for kind in kinds]) for at in range(many)]


def messages(word):
    sender, receiver, _ = WORDS[word]
    return [((sender, at), (receiver, LIMIT - at), body) for at, body in enumerate(bodies(word))]


class Bodies(unittest.TestCase):
    def refused(self, word, body):
        for sender, receiver in itertools.product(KINDS, repeat=2):
            self.assertIs(is_body(sender, receiver, body), False, shown((sender, receiver, body)))
        sender, receiver, _ = WORDS[word]
        self.assertIs(is_message(((sender, 0), (receiver, 1), body)), False, shown(body))

    def test_each_word_has_one_sender_and_one_receiver(self):
        others = ["", "Client", "houses", "clerk", "HOUSE", "client ", "seal"]
        for word in WORDS:
            for sender, receiver in itertools.product(KINDS + others, repeat=2):
                expected = (sender, receiver) == WORDS[word][:2]
                for body in bodies(word):
                    self.assertIs(is_body(sender, receiver, body), expected, (sender, receiver, body[0]))

    def test_items_of_another_kind(self):
        for word in WORDS:
            for at, kind in enumerate(WORDS[word][2]):
                for body in bodies(word)[:2]:
                    for thing in BAD[kind]:
                        self.refused(word, body[:at + 1] + (thing,) + body[at + 2:])

    def test_items_too_few_and_too_many(self):
        for word in WORDS:
            for body in bodies(word):
                for many in range(1, len(body)):
                    self.refused(word, body[:many])
                for more in [(1,), ("a",), ((),), (None,), (1, 1), ((), ())]:
                    self.refused(word, body + more)

    def test_other_words(self):
        things = ["", "stores", "Store", "STORE", "seal ", "wish", "view", "client", b"store", None, 0, 1, True, (), ("store",),
                  [], ["store"], {}, {"store": 1}, Touchy(), TouchyString("store"), len, "\u00e9"]
        for word in WORDS:
            for body in bodies(word):
                for thing in things:
                    self.refused(word, (thing,) + body[1:])

    def test_what_is_no_tuple(self):
        for word in WORDS:
            for body in bodies(word):
                self.refused(word, list(body))
                self.refused(word, dict(enumerate(body)))
            self.refused(word, word)
            self.refused(word, ())
            self.refused(word, (bodies(word)[0],))
            for thing in odd_things():
                self.refused(word, thing)

    def test_only_that_a_tuple_stands_there_is_asked(self):
        inner = [(), (1,), ((),), (((),),), (None, 1.5, b"x"), ("a", 1), (Touchy(), TouchyTuple((1,)), TouchyString("a"))]
        for thing in inner:
            self.assertIs(is_body("client", "house", ("store", 0, 1, "a", thing)), True)
            self.assertIs(is_body("house", "client", ("fetched", 0, 1, thing)), True)
            self.assertIs(is_body("house", "house", ("sealed", 0, thing)), True)
            self.assertIs(is_body("house", "house", ("news", thing)), True)
            self.assertIs(is_body("house", "house", ("told", thing)), True)

    def test_a_view_may_be_0_and_a_ticket_may_not(self):
        self.assertIs(is_body("client", "house", ("fetch", 0, 1, "lamp")), True)
        self.assertIs(is_body("client", "house", ("fetch", 1, 0, "lamp")), False)
        self.assertIs(is_body("house", "client", ("stored", 0, 1)), True)
        self.assertIs(is_body("house", "client", ("stored", 1, 0)), False)

    def test_examples(self):
        self.assertIs(is_body("client", "house", ("fetch", 0, 1, "lamp")), True)
        self.assertIs(is_body("house", "client", ("fetch", 0, 1, "lamp")), False)


class Messages(unittest.TestCase):
    def refused(self, thing):
        self.assertIs(is_message(thing), False, shown(thing))

    def test_each_word(self):
        for word in WORDS:
            for message in messages(word):
                self.assertIs(is_message(message), True, shown(message))

    def test_each_sender_and_receiver(self):
        for word in WORDS:
            for sender, receiver in itertools.product(KINDS + ["", "clerk", "House"], repeat=2):
                expected = (sender, receiver) == WORDS[word][:2]
                self.assertIs(is_message(((sender, 3), (receiver, 4), bodies(word)[0])), expected)

    def test_numbers_of_senders_and_receivers(self):
        for word in WORDS:
            sender, receiver, _ = WORDS[word]
            body = bodies(word)[1]
            for number in (0, 1, 8, LIMIT):
                self.assertIs(is_message(((sender, number), (receiver, 0), body)), True)
                self.assertIs(is_message(((sender, 0), (receiver, number), body)), True)
                self.assertIs(is_message(((sender, number), (receiver, number), body)), True)
            for number in WRONG + ["1", (), (1,)]:
                self.refused(((sender, number), (receiver, 0), body))
                self.refused(((sender, 0), (receiver, number), body))

    def test_senders_and_receivers_of_another_form(self):
        for word in WORDS:
            sender, receiver, _ = WORDS[word]
            body = bodies(word)[1]
            for wrong in (lambda kind: [kind, 1], lambda kind: {kind: 1, 1: kind}, lambda kind: (kind,),
                          lambda kind: (kind, 1, 1), lambda kind: (1, kind), lambda kind: (kind.upper(), 1),
                          lambda kind: (TouchyString(kind), 1), lambda kind: ([kind], 1), lambda kind: kind,
                          lambda kind: (b"house", 1), lambda kind: (Touchy(), 1), lambda kind: ()):
                self.refused((wrong(sender), (receiver, 1), body))
                self.refused(((sender, 1), wrong(receiver), body))
            for thing in odd_things():
                self.refused((thing, (receiver, 1), body))
                self.refused(((sender, 1), thing, body))

    def test_bodies_of_another_form(self):
        for word in WORDS:
            sender, receiver, _ = WORDS[word]
            for thing in odd_things() + [list(bodies(word)[0]), (word,), ()]:
                self.refused(((sender, 1), (receiver, 1), thing))

    def test_other_things(self):
        for thing in odd_things():
            self.refused(thing)
        for word in WORDS:
            message = messages(word)[0]
            self.refused(list(message))
            self.refused(message[:2])
            self.refused(message + ((),))
            self.refused(message[::-1])
            self.refused((message,))
            self.refused(message[2])
            self.refused({0: message[0], 1: message[1], 2: message[2]})

    def test_the_interface_stands_in_the_file(self):
        for function in (is_message, is_body):
            self.assertEqual(function.__module__, messages_file.__name__)
