"""Halls with which the tests begin, and what can be seen of them."""

from ringheld.hall import Hall
from ringheld.ring import Ring

POINTS = [(0, 0), (50, 1), (100, 2), (150, 3), (200, 1)]
OTHER_POINTS = [(10, 4), (60, 1), (110, 2), (160, 0), (210, 3), (240, 4)]
WISH = ("put", ("size",), 42)


def picture(thing):
    """Return a picture of all that an object holds, so that nothing can change without changing it."""
    if isinstance(thing, dict):
        return {key: picture(thing[key]) for key in thing}
    if isinstance(thing, (list, tuple)):
        return [type(thing).__name__, *[picture(part) for part in thing]]
    if isinstance(thing, Ring):
        return thing.value()
    if hasattr(thing, "__dict__"):
        return [type(thing).__name__, picture(vars(thing))]
    return thing


def small_hall(**more):
    """Return a hall with two houses, each of which owns a half of the places alone, and with one client."""
    return Hall([(0, 0), (128, 1)], **{"copies": 1, "write": 1, "read": 1, "houses": 2, "clients": 1, **more})


def busy_hall():
    """Return a hall with two rings where everything is under way.

    Client 0 has an open wish that some houses have stored, client 1 an open firm read. House 2 is down,
    house 4 has forgotten, and house 3 has begun to take over for view 1. There are messages of all kinds.
    """
    hall = Hall(POINTS)
    hall.wish(0, "lamp", WISH)
    sent = hall.send(0, 0)
    hall.deliver(sent[0])
    hall.ask(1, "lamp", firm=True)
    hall.send(1, 0)
    hall.enter_ring(OTHER_POINTS)
    hall.begin(3, 1)
    hall.exchange(1, 3)
    hall.fall(2)
    hall.forget(4)
    return hall


def kept_in(hall):
    """Return the values of all that the houses keep and the clients know, by houses or clients and keys."""
    keys = sorted({event[3] for event in hall.book if event[0] in ("wished", "asked")})
    houses = [hall.house(house) for house in range(hall.house_count())]
    clients = [hall.client(client) for client in range(hall.client_count())]
    return ([{key: house.keep(key).value() for key in keys} for house in houses],
            [{key: client.known(key).value() for key in keys} for client in clients])


def deliver_all(hall):
    """Deliver and drop the message with the least number, until there is none; return how many there were."""
    delivered = 0
    while hall.network.numbers():
        number = min(hall.network.numbers())
        hall.deliver(number)
        hall.drop(number)
        delivered += 1
    return delivered
