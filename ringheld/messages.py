"""Messages: who sends which words to whom, and what stands behind them (points 7.1 and 7.2 of the document)."""

from ringheld.values import is_key, is_number

# For each word the sender, the receiver, and the kinds of the items behind the word.
FORMS = {
    "store": ("client", "house", ("view", "ticket", "key", "tuple")),
    "fetch": ("client", "house", ("view", "ticket", "key")),
    "stored": ("house", "client", ("view", "ticket")),
    "refused": ("house", "client", ("view", "ticket")),
    "fetched": ("house", "client", ("view", "ticket", "tuple")),
    "seal": ("house", "house", ("view",)),
    "sealed": ("house", "house", ("view", "tuple")),
    "news": ("house", "house", ("tuple",)),
    "told": ("house", "house", ("tuple",)),
}


def is_message(thing):
    """Return True if the thing is a message. Any Python object may be passed."""
    if type(thing) is not tuple or len(thing) != 3:
        return False
    sender, receiver, body = thing
    return _is_party(sender) and _is_party(receiver) and is_body(sender[0], receiver[0], body)


def is_body(sender, receiver, body):
    """Return True if such a sender may send the body, any Python object, to such a receiver."""
    if type(body) is not tuple or len(body) == 0:
        return False
    # Only a string may be looked for: an object of another class could raise an error of its own.
    if type(body[0]) is not str or body[0] not in FORMS:
        return False
    own_sender, own_receiver, kinds = FORMS[body[0]]
    return sender == own_sender and receiver == own_receiver and _have_kinds(body[1:], kinds)


def _is_party(thing):
    """Return True if the thing may be a sender or a receiver."""
    return (type(thing) is tuple and len(thing) == 2
            and type(thing[0]) is str and thing[0] in ("client", "house") and is_number(thing[1]))


def _have_kinds(items, kinds):
    return len(items) == len(kinds) and all([_has_kind(item, kind) for item, kind in zip(items, kinds)])


def _has_kind(item, kind):
    if kind == "view":
        return is_number(item)
    if kind == "ticket":
        return is_number(item) and item >= 1
    if kind == "key":
        return is_key(item)
    return type(item) is tuple
