"""The hall, which holds houses, clients, a network, a book and a notary (points 8.1 to 8.5 of the document)."""

from ringheld.book import Book
from ringheld.client import Client
from ringheld.errors import BadValue, HouseDown, Unknown
from ringheld.house import House
from ringheld.network import Network
from ringheld.notary import Notary
from ringheld.quorum import Terms
from ringheld.ring import Ring
from ringheld.values import is_integer, is_key
from ringheld.wishes import is_wish

MOST_HOUSES = 9
MOST_CLIENTS = 4


class Hall:
    """A hall. Its houses and its clients stand in lists, each at its own number.

    The methods from `wish` on are its deeds: each returns the list of the numbers of the messages
    that were sent. A deed raises its errors before it changes anything.
    """

    def __init__(self, points, *, copies=3, write=2, read=2, houses=5, clients=2):
        _check_count(houses, MOST_HOUSES)
        _check_count(clients, MOST_CLIENTS)
        self.terms = Terms(copies, write, read)
        self._houses = [House(number, self.terms) for number in range(houses)]
        self._clients = [Client(number, self.terms) for number in range(clients)]
        self._ups = [True] * houses
        self.notary = Notary(self._ring_of(points), self.terms)
        self.network = Network()
        self.book = Book()
        for house in self.notary.ring(0).houses():
            self.house(house).start()

    def house_count(self):
        """Return how many houses there are."""
        return len(self._houses)

    def client_count(self):
        """Return how many clients there are."""
        return len(self._clients)

    def house(self, house):
        """Return the house with this number. Raise Unknown if there is none."""
        if not 0 <= house < len(self._houses):
            raise Unknown("there is no such house")
        return self._houses[house]

    def client(self, client):
        """Return the client with this number. Raise Unknown if there is none."""
        if not 0 <= client < len(self._clients):
            raise Unknown("there is no such client")
        return self._clients[client]

    def is_up(self, house):
        """Return True if the house is up. Raise Unknown if there is no such house."""
        self.house(house)
        return self._ups[house]

    def wish(self, client, key, wish):
        """The client takes up a wish."""
        wisher = self.client(client)
        if not is_key(key) or not is_wish(wish):
            raise BadValue("a wish needs a key and a wish")
        ticket, deed = wisher.wish(key, wish)
        self.book.note(("wished", client, ticket, key, deed))
        return []

    def ask(self, client, key, *, firm=False):
        """The client asks for the object under a key."""
        asker = self.client(client)
        if not is_key(key):
            raise BadValue("a client asks for a key")
        ticket = asker.ask(key, firm=firm)
        self.book.note(("asked", client, ticket, key, firm))
        return []

    def give_up(self, client):
        """The client gives up its open request, if it has one."""
        self.client(client).give_up()
        return []

    def send(self, client, view):
        """The client sends its open request in this view."""
        sender = self.client(client)
        return self._post(("client", client), sender.send(view, self.notary.ring(view)))

    def deliver(self, number):
        """The receiver of the message handles it."""
        sender, receiver, body = self.network.message(number)
        kind, at = receiver
        if kind == "house":
            return self._post(receiver, self._house_up(at).handle(sender, body))
        event = self.client(at).handle(sender, body)
        if event is not None:
            self.book.note((event[0], at) + event[1:])
        return []

    def drop(self, number):
        """The message is taken out of the network."""
        self.network.drop(number)
        return []

    def fall(self, house):
        """The house falls."""
        self.house(house).fall()
        self._ups[house] = False
        return []

    def rise(self, house):
        """The house rises."""
        self.house(house)
        self._ups[house] = True
        return []

    def forget(self, house):
        """The house forgets, with the newest view as its floor."""
        self.house(house).forget(self.notary.newest)
        return []

    def enter_ring(self, points):
        """The notary enters the ring of these points."""
        self.notary.enter(self._ring_of(points))
        return []

    def begin(self, house, view):
        """The house begins to take over for this view."""
        new = self.notary.ring(view)
        # Before view 0 there is no ring, so this raises Unknown for view 0.
        old = self.notary.ring(view - 1)
        return self._post(("house", house), self._house_up(house).begin(view, old, new))

    def exchange(self, house, other):
        """The house sends its news to the other one, which may be down, or be the same."""
        self.house(other)
        return self._post(("house", house), [(("house", other), self._house_up(house).news())])

    def _house_up(self, house):
        """Return the house with this number. Raise Unknown if there is none, HouseDown if it is down."""
        if not self.is_up(house):
            raise HouseDown("the house is down")
        return self.house(house)

    def _ring_of(self, points):
        """Return the ring of these points. Raise BadValue if they make none, or name a house that there is not."""
        ring = Ring(points, self.terms.copies)
        if ring.houses()[-1] >= len(self._houses):
            raise BadValue("a house of the ring is not one of the hall")
        return ring

    def _post(self, sender, pairs):
        """Send to each receiver its body, and return the list of the numbers of the messages."""
        return [self.network.send((sender, receiver, body)) for receiver, body in pairs]


def _check_count(thing, most):
    """Raise BadValue if the thing is no count of houses or clients."""
    if not is_integer(thing) or not 1 <= thing <= most:
        raise BadValue("a count is out of its range")
