"""The audit (points 9.1 to 9.5)."""

import copy
import itertools
import random
import unittest

from models import entry_of, any_wish
from ringheld import audit as audit_file
from ringheld.audit import audit
from ringheld.clock import Clock
from ringheld.history import heard, kept
from ringheld.keep import Keep, piece
from ringheld.settle import settle
from runs import CALM, FORGETFUL, WILD, Run

LIMIT = 10 ** 12
EMPTY = ((), ())


def deed_of(client, number, over=(), entry=((), "amount", 1)):
    return ((client, number), entry, tuple(over))


def wished(client, ticket, deed, key="lamp"):
    return ("wished", client, ticket, key, deed)


def asked(client, ticket, key="lamp", firm=False):
    return ("asked", client, ticket, key, firm)


def ended(client, ticket, dot):
    return ("ended", client, ticket, dot)


def shown(client, ticket, *deeds):
    """Return the event of a read that shows the kept form of these deeds."""
    return ("shown", client, ticket, kept(list(deeds)).value())


def latest(events, at, word, client, ticket):
    """Return the index of the latest event before this index with the word, the client and the ticket, or None."""
    found = [index for index in range(at) if events[index][:3] == (word, client, ticket)]
    return found[-1] if found else None


def dots_of(keep_value):
    """Return the dots of the clock of a kept form, one by one."""
    return {(client, number) for client, upto, later in keep_value[1] for number in [*range(1, upto + 1), *later]}


def findings_at(events, at):
    """Return all findings that apply to an event, in the order of point 9.4, worked out dot by dot."""
    word, client, ticket, told = events[at]
    if word == "ended":
        wish = latest(events, at, "wished", client, ticket)
        return ["unasked"] if wish is None or events[wish][4][0] != told else []
    asking = latest(events, at, "asked", client, ticket)
    if asking is None:
        return ["unasked"]
    key, dots = events[asking][3], dots_of(told)
    wishes = [event for event in events[:at] if event[0] == "wished" and event[3] == key]
    deeds = [event[4] for event in wishes]
    ends = [events[index] for index in range(asking) if events[index][0] == "ended"
            and events[index][3] not in dots and is_of_key(events, index, key)]
    reads = [events[index] for index in range(asking) if events[index][0] == "shown" and is_firm(events, index, key)]
    applies = {
        "unheard": not dots <= {deed[0] for deed in deeds},
        "unexact": told != kept([deed for deed in deeds if deed[0] in dots]).value(),
        "unowned": any(event[1] == client and event[4][0] not in dots for event in wishes),
        "stale": len(ends) > 0,
        "back": any(not dots_of(event[3]) <= dots for event in reads),
    }
    return [name for name in ("unheard", "unexact", "unowned", "stale", "back") if applies[name]]


def is_of_key(events, index, key):
    wish = latest(events, index, "wished", *events[index][1:3])
    return wish is not None and events[wish][3] == key


def is_firm(events, index, key):
    asking = latest(events, index, "asked", *events[index][1:3])
    return asking is not None and events[asking][3] == key and events[asking][4] is True


def model(events):
    """Return the findings of all events, each worked out for itself."""
    found = [(findings_at(events, at), at) for at in range(len(events)) if events[at][0] in ("ended", "shown")]
    return [(names[0], at) for names, at in found if names]


class Audits(unittest.TestCase):
    def check(self, events, expected):
        """Check the findings, beside those of the model, and that the events stay as they were."""
        before = copy.deepcopy(events)
        found = audit(events)
        self.assertEqual(found, expected)
        self.assertEqual(model(events), expected)
        self.assertEqual(events, before)
        self.assertIs(type(found), list)
        found.append(1)
        self.assertEqual(audit(events), expected)


class Ends(Audits):
    A = deed_of(0, 1)
    B = deed_of(0, 2)

    def test_no_events(self):
        self.check([], [])

    def test_events_without_findings(self):
        self.check([wished(0, 1, self.A)], [])
        self.check([asked(0, 1), asked(0, 2, firm=True), asked(0, 1)], [])
        self.check([wished(0, 1, self.A), ended(0, 1, (0, 1)), ended(0, 1, (0, 1))], [])

    def test_an_end_without_a_wish(self):
        self.check([ended(0, 1, (0, 1))], [("unasked", 0)])
        self.check([ended(0, 1, (0, 1)), wished(0, 1, self.A)], [("unasked", 0)])
        self.check([asked(0, 1), ended(0, 1, (0, 1))], [("unasked", 1)])

    def test_an_end_of_another_client_or_ticket(self):
        self.check([wished(0, 1, self.A), ended(1, 1, (0, 1))], [("unasked", 1)])
        self.check([wished(0, 1, self.A), ended(0, 2, (0, 1))], [("unasked", 1)])
        self.check([wished(1, 0, self.A), ended(0, 1, (0, 1))], [("unasked", 1)])

    def test_an_end_with_another_dot(self):
        for dot in [(0, 2), (1, 1), (0, LIMIT)]:
            self.check([wished(0, 1, self.A), ended(0, 1, dot)], [("unasked", 1)])

    def test_tickets_that_a_client_uses_again(self):
        events = [wished(0, 1, self.A), wished(0, 1, self.B), ended(0, 1, (0, 2))]
        self.check(events, [])
        self.check(events[:2] + [ended(0, 1, (0, 1))], [("unasked", 2)])
        self.check([wished(0, 1, self.A), ended(0, 1, (0, 1)), wished(0, 1, self.B), ended(0, 1, (0, 2))], [])
        self.check([wished(0, 1, self.A), wished(0, 1, self.B, "shoes"), ended(0, 1, (0, 2))], [])
        self.check([wished(0, 1, self.A), wished(0, 2, self.B), ended(0, 1, (0, 1)), ended(0, 2, (0, 2))], [])

    def test_great_numbers(self):
        deed = deed_of(LIMIT, LIMIT)
        self.check([wished(LIMIT, LIMIT, deed), ended(LIMIT, LIMIT, (LIMIT, LIMIT))], [])
        self.check([wished(LIMIT, LIMIT, deed), ended(LIMIT, LIMIT, (LIMIT, LIMIT - 1))], [("unasked", 1)])


class Reads(Audits):
    """Client 1 asks and is shown. The deeds are of other clients, unless they have to be its own."""

    A = deed_of(0, 1)
    B = deed_of(2, 1)
    OWN = deed_of(1, 1)

    def test_without_findings(self):
        self.check([asked(1, 1), shown(1, 1)], [])
        self.check([wished(0, 1, self.A), asked(1, 1), shown(1, 1)], [])
        self.check([wished(0, 1, self.A), asked(1, 1), shown(1, 1, self.A)], [])
        self.check([asked(1, 1), wished(0, 1, self.A), shown(1, 1, self.A), shown(1, 1, self.A)], [])

    def test_unasked(self):
        self.check([shown(1, 1)], [("unasked", 0)])
        self.check([shown(1, 1), asked(1, 1)], [("unasked", 0)])
        self.check([asked(0, 1), shown(1, 1)], [("unasked", 1)])
        self.check([asked(1, 2), shown(1, 1)], [("unasked", 1)])
        self.check([wished(1, 1, self.OWN), shown(1, 1, self.OWN)], [("unasked", 1)])

    def test_unheard(self):
        self.check([asked(1, 1), shown(1, 1, self.A)], [("unheard", 1)])
        self.check([asked(1, 1), shown(1, 1, self.A), wished(0, 1, self.A)], [("unheard", 1)])
        self.check([wished(0, 1, self.A, "shoes"), asked(1, 1), shown(1, 1, self.A)], [("unheard", 2)])
        self.check([wished(0, 1, self.A, "Lamp"), asked(1, 1, "Lamp"), shown(1, 1, self.A)], [])
        # The deed overtakes a dot of which no deed was wished: the kept form is exact, and not heard of.
        over = deed_of(0, 1, [(7, 1)])
        self.check([wished(0, 1, over), asked(1, 1), shown(1, 1, over)], [("unheard", 2)])
        self.check([wished(0, 1, over), wished(7, 1, deed_of(7, 1)), asked(1, 1), shown(1, 1, over)], [])

    def test_unexact(self):
        events = [wished(0, 1, self.A), wished(2, 1, self.B), asked(1, 1)]
        value = kept([self.A, self.B]).value()
        for wrong in [((), value[1]), (value[0][:1], value[1]), (value[0][1:], value[1]),
                      ((((0, 1), ((), "amount", 2)), value[0][1]), value[1])]:
            self.check(events + [("shown", 1, 1, wrong)], [("unexact", 3)])
        self.check(events + [("shown", 1, 1, value)], [])

    def test_unexact_pairs_that_were_overtaken(self):
        over = deed_of(2, 1, [(0, 1)])
        events = [wished(0, 1, self.A), wished(2, 1, over), asked(1, 1)]
        self.check(events + [shown(1, 1, self.A, over)], [])
        # The clock has the dot of the deed that overtakes, and the pair is there still.
        value = Keep([(self.A[0], self.A[1]), (over[0], over[1])], Clock([(0, 1), (2, 1)])).value()
        self.check(events + [("shown", 1, 1, value)], [("unexact", 3)])
        # The clock does not have the dot that is overtaken.
        self.check(events + [("shown", 1, 1, (((over[0], over[1]),), ((2, 1, ()),)))], [("unexact", 3)])

    def test_unowned(self):
        self.check([wished(1, 1, self.OWN), asked(1, 2), shown(1, 2)], [("unowned", 2)])
        self.check([asked(1, 2), wished(1, 1, self.OWN), shown(1, 2)], [("unowned", 2)])
        self.check([asked(1, 2), shown(1, 2), wished(1, 1, self.OWN)], [])
        self.check([wished(1, 1, self.OWN, "shoes"), asked(1, 2), shown(1, 2)], [])
        self.check([wished(1, 1, self.OWN), asked(1, 2), shown(1, 2, self.OWN)], [])
        self.check([wished(1, 1, self.OWN), wished(1, 2, deed_of(1, 2)), asked(1, 3), shown(1, 3, deed_of(1, 2))], [("unowned", 3)])

    def test_own_deeds_are_those_that_the_client_wished(self):
        # Whatever the client of the dot is.
        self.check([wished(1, 1, self.A), asked(1, 2), shown(1, 2)], [("unowned", 2)])
        self.check([wished(0, 1, self.OWN), asked(1, 2), shown(1, 2)], [])

    def test_stale(self):
        end = [wished(0, 1, self.A), ended(0, 1, (0, 1))]
        self.check(end + [asked(1, 1), shown(1, 1)], [("stale", 3)])
        self.check(end + [asked(1, 1), shown(1, 1, self.A)], [])
        self.check(end + [asked(1, 1, "shoes"), shown(1, 1)], [])
        self.check([wished(0, 1, self.A), asked(1, 1), ended(0, 1, (0, 1)), shown(1, 1)], [])
        self.check([wished(0, 1, self.A), asked(1, 1), shown(1, 1), ended(0, 1, (0, 1))], [])

    def test_stale_beside_the_latest_asking(self):
        events = [wished(0, 1, self.A), asked(1, 1), ended(0, 1, (0, 1)), asked(1, 1), shown(1, 1)]
        self.check(events, [("stale", 4)])
        self.check(events[:3] + [asked(1, 2), shown(1, 1)], [])

    def test_stale_with_the_dot_of_the_event(self):
        # The end is unasked, because its dot is not that of the deed; this dot counts all the same.
        self.check([wished(0, 1, self.A), ended(0, 1, (5, 5)), asked(1, 1), shown(1, 1, self.A)], [("unasked", 1), ("stale", 3)])
        events = [wished(0, 1, self.A), wished(2, 1, self.B), ended(0, 1, (2, 1)), asked(1, 1)]
        self.check(events + [shown(1, 1, self.B)], [("unasked", 2)])
        self.check(events + [shown(1, 1, self.A)], [("unasked", 2), ("stale", 4)])

    def test_an_end_without_a_wish_makes_nothing_stale(self):
        self.check([ended(0, 1, (0, 1)), wished(0, 1, self.A), asked(1, 1), shown(1, 1)], [("unasked", 0)])

    def test_the_key_of_an_end_is_that_of_its_latest_wish(self):
        events = [wished(0, 1, self.A), wished(0, 1, self.B, "shoes"), ended(0, 1, (2, 1))]
        self.check(events + [asked(1, 1), shown(1, 1)], [])
        self.check(events + [asked(1, 1, "shoes"), shown(1, 1)], [("stale", 4)])
        # A wish that comes later does not change it.
        events = [wished(0, 1, self.A), ended(0, 1, (0, 1)), wished(0, 1, self.B, "shoes")]
        self.check(events + [asked(1, 1), shown(1, 1)], [("stale", 4)])
        self.check(events + [asked(1, 1, "shoes"), shown(1, 1)], [])

    def test_back(self):
        read = [wished(0, 1, self.A), asked(2, 1, firm=True), shown(2, 1, self.A)]
        self.check(read + [asked(1, 1), shown(1, 1)], [("back", 4)])
        self.check(read + [asked(1, 1), shown(1, 1, self.A)], [])
        self.check(read + [asked(1, 1, "shoes"), shown(1, 1)], [])
        self.check([read[0], asked(2, 1), read[2], asked(1, 1), shown(1, 1)], [])
        self.check([*read[:2], asked(1, 1), read[2], shown(1, 1)], [])
        self.check([*read[:2], asked(1, 1), shown(1, 1), read[2]], [])
        self.check(read + [asked(2, 2), shown(2, 2)], [("back", 4)])

    def test_back_beside_the_latest_asking(self):
        read = [wished(0, 1, self.A), asked(2, 1, firm=True), shown(2, 1, self.A)]
        self.check([asked(1, 1), *read, asked(1, 1), shown(1, 1)], [("back", 5)])
        self.check([asked(1, 1), *read, asked(1, 2), shown(1, 1)], [])

    def test_the_asking_of_a_firm_read_is_the_latest_one(self):
        for first, second, found in [(True, False, []), (False, True, [("back", 5)])]:
            events = [wished(0, 1, self.A), asked(2, 1, firm=first), asked(2, 1, firm=second), shown(2, 1, self.A)]
            self.check(events + [asked(1, 1), shown(1, 1)], found)
        events = [wished(0, 1, self.A), asked(2, 1, firm=True), shown(2, 1, self.A), asked(2, 1, firm=False)]
        self.check(events + [asked(1, 1), shown(1, 1)], [("back", 5)])

    def test_back_behind_a_firm_read_that_has_a_finding(self):
        events = [asked(2, 1, firm=True), shown(2, 1, self.A), wished(0, 1, self.A), asked(1, 1), shown(1, 1)]
        self.check(events, [("unheard", 1), ("back", 4)])
        self.check([shown(2, 1, self.A), wished(0, 1, self.A), asked(1, 1), shown(1, 1)], [("unasked", 0)])

    def test_only_the_clocks_of_firm_reads_count(self):
        over = deed_of(2, 1, [(0, 1)])
        events = [wished(0, 1, self.A), asked(2, 1, firm=True), shown(2, 1, self.A), wished(2, 2, over), asked(1, 1)]
        self.check(events + [shown(1, 1, self.A, over)], [])

    def test_findings_of_several_events(self):
        events = [wished(0, 1, self.A), ended(0, 1, (0, 1)), asked(1, 1), shown(1, 1), ended(1, 1, (0, 1)), shown(1, 1, self.B),
                  shown(1, 1, self.A), shown(2, 1)]
        self.check(events, [("stale", 3), ("unasked", 4), ("unheard", 5), ("unasked", 7)])

    def test_great_clocks(self):
        great = deed_of(0, LIMIT)
        everything = ((), ((0, LIMIT, ()), (1, LIMIT, ()), (2, LIMIT - 1, ())))
        for events, word in [([wished(0, 1, great), asked(1, 1), ("shown", 1, 1, everything)], "unheard"),
                             ([wished(0, 1, great), asked(1, 1), shown(1, 1, great)], None),
                             ([wished(1, 1, great), asked(1, 2), shown(1, 2)], "unowned"),
                             ([wished(0, 1, great), ended(0, 1, (0, LIMIT)), asked(1, 1), shown(1, 1)], "stale")]:
            self.assertEqual(audit(events), [] if word is None else [(word, len(events) - 1)])
        events = [asked(2, 1, firm=True), ("shown", 2, 1, everything), asked(1, 1), shown(1, 1)]
        self.assertEqual(audit(events), [("unheard", 1), ("back", 3)])
        events = [asked(2, 1, firm=True), shown(2, 1), wished(0, 1, great), asked(1, 1), ("shown", 1, 1, ((), ((0, LIMIT, ()),)))]
        self.assertEqual(audit(events), [("unheard", 4)])

    def test_example(self):
        deed = ((0, 1), ((), "flag", 1), ())
        self.check([("wished", 0, 1, "lamp", deed), ("ended", 0, 1, (0, 1)), ("asked", 1, 1, "lamp", False),
                    ("shown", 1, 1, ((), ()))], [("stale", 3)])

    def test_the_interface_stands_in_the_file(self):
        self.assertEqual(audit.__module__, audit_file.__name__)


class Pairs(Audits):
    """A read to which any of the findings apply: the first one is told."""

    NAMES = ["unheard", "unexact", "unowned", "stale", "back"]

    def events_with(self, names):
        """Return events of which the last one has these findings. Its dots are those that it should have, but for them."""
        base = deed_of(5, 1, [(7, 1)] if "unheard" in names else [])
        own, other, third = deed_of(1, 1), deed_of(2, 1), deed_of(3, 1)
        events = [wished(5, 1, base), wished(1, 1, own), wished(2, 1, other), wished(3, 1, third),
                  asked(0, 1, firm=True), shown(0, 1, third), ended(2, 1, (2, 1)), asked(1, 2)]
        deeds = [base] + [deed for deed, name in [(own, "unowned"), (other, "stale"), (third, "back")] if name not in names]
        pairs, clock = kept(deeds).value()
        return events + [("shown", 1, 2, (pairs[:-1] if "unexact" in names else pairs, clock))]

    def test_each_finding_and_each_pair(self):
        for many in range(6):
            for names in itertools.combinations(self.NAMES, many):
                events = self.events_with(names)
                self.assertEqual(findings_at(events, 8), list(names))
                self.check(events, [(names[0], 8)] if names else [])

    def test_unasked_comes_before_all_others(self):
        for many in range(6):
            for names in itertools.combinations(self.NAMES, many):
                events = self.events_with(names)
                self.check(events[:7] + events[8:], [("unasked", 7)])


class AnyEvents(Audits):
    def any_events(self, source, many):
        """Return events in which tickets are used again, and what is ended and shown is sometimes wrong."""
        events, deeds = [], {"lamp": [], "shoes": []}
        for _ in range(many):
            client, ticket, key = source.randrange(3), source.randint(1, 3), source.choice(["lamp", "shoes"])
            word = source.choice(["wished", "asked", "ended", "shown", "shown"])
            if word == "wished":
                dots = [deed[0] for deed in deeds[key]] + [(9, 1)]
                number = len([dot for dot in dots if dot[0] == client]) + 1
                over = [dot for dot in dots if source.random() < 0.2]
                deed = ((client, number), entry_of(any_wish(source)), tuple(sorted(over)))
                deeds[key].append(deed)
                events.append((word, client, ticket, key, deed))
            elif word == "asked":
                events.append((word, client, ticket, key, source.random() < 0.5))
            elif word == "ended":
                wish = latest(events, len(events), "wished", client, ticket)
                right = wish is not None and source.random() < 0.9
                events.append((word, client, ticket, events[wish][4][0] if right else (source.randrange(3), source.randint(1, 3))))
            else:
                asking = latest(events, len(events), "asked", client, ticket)
                if asking is not None:
                    key = events[asking][3]
                events.append((word, client, ticket, self.any_value(source, deeds[key])))
        return events

    def any_value(self, source, deeds):
        part = [deed for deed in deeds if source.random() < source.choice([0.5, 0.9, 1])]
        keep = kept(deeds if source.random() < 0.3 else part)
        if source.random() < 0.2:
            keep = keep | piece(((source.randrange(3), source.randint(1, 6)), None, ()))
        pairs, clock = keep.value()
        return (pairs[1:] if source.random() < 0.1 else pairs, clock)

    def test_any_events(self):
        words = set()
        for seed in range(400):
            events = self.any_events(random.Random(seed), 30)
            expected = model(events)
            self.check(events, expected)
            words |= {word for word, _ in expected}
        self.assertEqual(words, {"unasked", "unheard", "unexact", "unowned", "stale", "back"})

    def test_books_of_halls(self):
        many = 0
        for seed in range(40):
            run = Run(seed, [CALM, WILD, FORGETFUL][seed % 3])
            run.steps(400)
            self.check(run.hall.book.events(), [])
            settle(run.hall)
            self.check(run.hall.book.events(), [])
            many += len([event for event in run.hall.book if event[0] == "shown"])
        self.assertGreater(many, 100)

    def test_books_that_were_changed(self):
        source, words = random.Random(9), set()
        for seed in range(60):
            run = Run(seed, CALM)
            run.steps(400)
            settle(run.hall)
            events = run.hall.book.events()
            for _ in range(4):
                one, other = source.randrange(len(events)), source.randrange(len(events))
                if source.random() < 0.3:
                    del events[one]
                elif source.random() < 0.5:
                    events[one], events[other] = events[other], events[one]
                elif events[other][0] != "wished":
                    events.insert(one, events[other])
            expected = model(events)
            self.check(events, expected)
            words |= {word for word, _ in expected}
        self.assertLessEqual({"unasked", "unheard", "unowned", "stale"}, words)

    def test_the_heard_deeds_make_what_is_shown(self):
        for seed in range(20):
            run = Run(seed, CALM)
            run.steps(400)
            for event in run.hall.book:
                if event[0] == "shown":
                    keep = Keep.from_value(event[3])
                    at = run.hall.book.events().index(event)
                    asking = latest(run.hall.book.events(), at, "asked", *event[1:3])
                    key = run.hall.book.events()[asking][3]
                    history = [other[4] for other in run.hall.book.events()[:at] if other[0] == "wished" and other[3] == key]
                    self.assertEqual(kept(heard(history, keep.clock)).value(), keep.value())
