"""Settling: everything that is under way in a hall comes to its end (point 8.6 of the document)."""


def settle(hall):
    """Settle the hall and return how many messages were delivered."""
    _wake(hall)
    delivered = _take_over(hall)
    delivered += _answer(hall)
    delivered += _exchange(hall)
    return delivered


def _wake(hall):
    """Let all houses rise, and drop all messages."""
    for house in range(hall.house_count()):
        hall.rise(house)
    for number in hall.network.numbers():
        hall.drop(number)


def _take_over(hall):
    """Let each house begin each view. Return how many messages were delivered."""
    delivered = 0
    for view in range(1, hall.notary.newest + 1):
        for house in range(hall.house_count()):
            hall.begin(house, view)
        delivered += _deliver_all(hall)
    return delivered


def _answer(hall):
    """Let each client send twice: a firm read needs its store too. Return how many messages were delivered."""
    delivered = 0
    for client in range(hall.client_count()):
        for _ in range(2):
            hall.send(client, hall.notary.newest)
            delivered += _deliver_all(hall)
    return delivered


def _exchange(hall):
    """Let house 0 hear of all other houses, and then each of them of house 0. Return how many were delivered."""
    others = range(1, hall.house_count())
    for other in others:
        hall.exchange(0, other)
    delivered = _deliver_all(hall)
    for other in others:
        hall.exchange(other, 0)
    return delivered + _deliver_all(hall)


def _deliver_all(hall):
    """Deliver and drop the message with the least number, until there is none. Return how many there were."""
    delivered = 0
    while len(hall.network) > 0:
        # What is sent meanwhile has greater numbers than all of these.
        for number in hall.network.numbers():
            hall.deliver(number)
            hall.drop(number)
            delivered += 1
    return delivered
