"""Houses, rings and kept forms with which the tests of houses and clients begin."""

from ringheld.house import House
from ringheld.keep import Keep, piece
from ringheld.quorum import Terms
from ringheld.ring import Ring

LIMIT = 10 ** 12
TERMS = Terms(3, 2, 2)
# House 5 owns nothing in these rings, so that it is ready at once in all of them.
ELSEWHERE = Ring([(0, 0), (80, 1), (160, 2)], 3)
EMPTY = ((), ())

FIRST = piece(((0, 1), (("size",), "value", 42), ()))
SECOND = piece(((1, 1), (("size",), "value", 43), ((0, 1),)))
THIRD = piece(((2, 1), ((), "amount", 5), ()))
GREAT = Keep.from_value(((((0, 7), ((), "value", 1)), ((1, LIMIT), ((), "flag", 1))),
                         ((0, LIMIT, ()), (1, 0, (5, LIMIT)), (LIMIT, LIMIT - 1, ()))))
# Its clock has the dot (0, 7), of which it has no pair: the join with GREAT does not have this pair either.
GREATER = Keep.from_value(((((1, LIMIT), ((), "flag", 1)),), ((0, LIMIT, ()), (1, LIMIT, ()))))


def told(**keeps):
    """Return the tuple of the pairs (key, keep_value), by ascending keys."""
    return tuple([(key, keeps[key].value()) for key in sorted(keeps)])


def house_at(*views, number=5, terms=TERMS):
    """Return a house that has opened these views, without having heard of any other house."""
    house = House(number, terms)
    for view in views:
        if view == 0:
            house.start()
        else:
            house.begin(view, ELSEWHERE, ELSEWHERE)
    assert house.opened == list(views)
    return house


def store(house, key, keep, client=0, ticket=1):
    """Let the house store a kept form in the view that it serves."""
    answer = house.handle(("client", client), ("store", house.view, ticket, key, keep.value()))
    assert answer == [(("client", client), ("stored", house.view, ticket))]


def kept_by(house):
    return {key: house.keep(key).value() for key in house.kept_keys()}


def state(house):
    """Return what can be seen of a house without sending it anything."""
    served = [view for view in range(-2, 12) if house.serves(view)]
    return (house.number, house.terms, house.floor, house.view, house.opened, house.sealed, served, kept_by(house))
