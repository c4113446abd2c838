"""Drawn runs of halls: messages are lost, repeated and late, houses fall and forget, and rings are entered."""

import random

from models import any_wish
from ringheld.hall import Hall

KEYS = ["lamp", "Lamp", "shoes", "key 4"]
PATHS = [(), ("a",), ("a", "b"), ("b",)]
TERMS = [(3, 2, 2), (1, 1, 1), (2, 2, 1), (2, 1, 2), (3, 3, 1), (3, 1, 3), (3, 3, 3), (4, 3, 2), (5, 3, 3)]
# How often each of these is done, in runs that go on more or less well.
CALM = {"request": 25, "send": 14, "deliver": 90, "drop": 2, "fall": 0.5, "rise": 3, "forget": 0, "give_up": 0.5,
        "enter_ring": 0.5, "begin": 2, "all_begin": 1.5, "exchange": 3}
WILD = {"request": 25, "send": 20, "deliver": 90, "drop": 8, "fall": 2, "rise": 6, "forget": 0.1, "give_up": 2,
        "enter_ring": 0.8, "begin": 6, "all_begin": 2, "exchange": 3}
FORGETFUL = {**WILD, "drop": 2, "forget": 0.4, "enter_ring": 1.5, "all_begin": 4}


def any_points(source, copies, houses):
    """Return points of at least as many different houses as copies."""
    chosen = source.sample(range(houses), source.randint(copies, houses))
    chosen += [source.choice(chosen) for _ in range(source.randint(0, 4))]
    source.shuffle(chosen)
    return list(zip(source.sample(range(256), len(chosen)), chosen))


def any_hall(source, terms=None, kind=Hall):
    copies, write, read = terms or source.choice(TERMS)
    houses = source.randint(copies, min(copies + 3, 9))
    return kind(any_points(source, copies, houses), copies=copies, write=write, read=read,
                houses=houses, clients=source.randint(1, 4))


class Run:
    """A run of a hall, with a record of the wishes.

    `wished` holds for each key and dot the wish and the clock of what its client knew, `ended` for each
    wish that has ended its key, its dot and the view in which it ended.
    """

    def __init__(self, seed, weights=None, terms=None, kind=Hall):
        self.source = random.Random(seed)
        self.hall = any_hall(self.source, terms, kind)
        self.weights = weights or self.source.choice([CALM, WILD, FORGETFUL])
        self.wished = {key: {} for key in KEYS}
        self.ended = []

    def steps(self, many):
        for name in self.source.choices(list(self.weights), list(self.weights.values()), k=many):
            getattr(self, name)()

    def any_client(self):
        return self.source.randrange(self.hall.client_count())

    def any_house(self, only_up=False):
        """Return the number of a house, or None if it has to be up and none is."""
        hall = self.hall
        houses = [house for house in range(hall.house_count()) if hall.is_up(house) or not only_up]
        return self.source.choice(houses) if houses else None

    def any_view(self, least=0):
        """Return a view, the newest one most often."""
        newest = self.hall.notary.newest
        return newest if self.source.random() < 0.6 else self.source.randint(least, newest)

    def request(self):
        client, key = self.any_client(), self.source.choice(KEYS)
        if self.hall.client(client).request() is None:
            if self.source.random() < 0.5:
                wish, clock = any_wish(self.source, PATHS), self.hall.client(client).known(key).clock
                self.hall.wish(client, key, wish)
                self.wished[key][self.hall.book.events()[-1][4][0]] = (wish, clock)
            else:
                self.hall.ask(client, key, firm=self.source.random() < 0.5)

    def give_up(self):
        self.hall.give_up(self.any_client())

    def send(self):
        """Send in the view of a house, in which a request may well end, or in any view."""
        views = [self.hall.house(house).view for house in range(self.hall.house_count())]
        view = self.source.choice([view for view in views if view is not None] or [0])
        self.hall.send(self.any_client(), view if self.source.random() < 0.8 else self.any_view())

    def deliver(self):
        """Deliver one of the newest messages whose receiver is not down, or any such one."""
        numbers = [number for number in self.hall.network if not self.is_down(self.hall.network.message(number)[1])]
        if numbers:
            number = self.source.choice(numbers[-12:] if self.source.random() < 0.85 else numbers)
            self.deliver_number(number)
            if self.source.random() < 0.75:
                self.hall.drop(number)

    def is_down(self, receiver):
        return receiver[0] == "house" and not self.hall.is_up(receiver[1])

    def deliver_number(self, number):
        _, (kind, at), _ = self.hall.network.message(number)
        view, many = self.hall.client(at).view if kind == "client" else None, len(self.hall.book)
        self.hall.deliver(number)
        for event in self.hall.book.events()[many:]:
            if event[0] == "ended":
                key, = [wished[3] for wished in self.hall.book if wished[0] == "wished" and wished[1:3] == event[1:3]]
                self.ended.append((key, event[3], view))

    def drop(self):
        if len(self.hall.network) > 0:
            self.hall.drop(self.source.choice(self.hall.network.numbers()))

    def fall(self):
        self.hall.fall(self.any_house())

    def rise(self):
        self.hall.rise(self.any_house())

    def forget(self):
        self.hall.forget(self.any_house())

    def enter_ring(self):
        if self.hall.notary.newest < 12:
            self.hall.enter_ring(any_points(self.source, self.hall.terms.copies, self.hall.house_count()))

    def begin(self):
        """Let a house take over, mostly for the view behind its own."""
        house = self.any_house(only_up=True)
        if self.hall.notary.newest > 0 and house is not None:
            own = self.hall.house(house).view
            follows = own is not None and own < self.hall.notary.newest and self.source.random() < 0.7
            self.hall.begin(house, own + 1 if follows else self.any_view(1))

    def all_begin(self):
        """Let all houses that are up take over for the least view that is behind that of one of them."""
        houses = [house for house in range(self.hall.house_count()) if self.hall.is_up(house)]
        views = [self.hall.house(house).view for house in houses if self.hall.house(house).view is not None]
        if views and min(views) < self.hall.notary.newest:
            for house in houses:
                self.hall.begin(house, min(views) + 1)

    def exchange(self):
        house = self.any_house(only_up=True)
        if house is not None:
            self.hall.exchange(house, self.any_house())
