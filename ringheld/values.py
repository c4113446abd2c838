"""Tests of the values that stand in deeds (part 1 of the document).

Any Python object may be passed to the functions whose names begin with `is_`. They look
into an object only when it is exactly an int, a str or a tuple: an object of another
class, also of one derived from these, could raise an error when it is compared or measured.
"""

LIMIT = 10 ** 12
TEXT_LENGTH = 60
KEY_LENGTH = 20
NAME_LENGTH = 12
PATH_LENGTH = 4


def ascends(things):
    """Return True if each thing of the list or tuple is less than the one behind it."""
    return all([things[at] < things[at + 1] for at in range(len(things) - 1)])


def is_integer(thing):
    """Return True if the thing is an integer (point 1.1)."""
    return type(thing) is int and -LIMIT <= thing <= LIMIT


def is_number(thing):
    """Return True if the thing is a number (point 1.1)."""
    return is_integer(thing) and thing >= 0


def is_text(thing):
    """Return True if the thing is a text (point 1.2)."""
    return type(thing) is str and len(thing) <= TEXT_LENGTH and all([_is_sign(sign) for sign in thing])


def is_item(thing):
    """Return True if the thing is an item (point 1.2)."""
    return is_integer(thing) or is_text(thing)


def is_path(thing):
    """Return True if the thing is a path (point 1.3)."""
    return type(thing) is tuple and len(thing) <= PATH_LENGTH and all([_is_name(name) for name in thing])


def is_key(thing):
    """Return True if the thing is a key (point 1.3)."""
    return is_text(thing) and 1 <= len(thing) <= KEY_LENGTH


def is_dot(thing):
    """Return True if the thing is a dot (point 1.4)."""
    return (type(thing) is tuple and len(thing) == 2
            and is_number(thing[0]) and is_number(thing[1]) and thing[1] != 0)


def is_entry(thing):
    """Return True if the thing is an entry (point 1.5)."""
    return (type(thing) is tuple and len(thing) == 3
            and is_path(thing[0]) and _is_item_of(thing[1], thing[2]))


def is_deed(thing):
    """Return True if the thing is a deed (point 1.6)."""
    return (type(thing) is tuple and len(thing) == 3
            and is_dot(thing[0])
            and (thing[1] is None or is_entry(thing[1]))
            and _is_over(thing[0], thing[2]))


def _is_sign(sign):
    """Return True if the character may stand in a text."""
    # 37 is the code of the percent sign: the rules of the language keep it out of the strings here.
    return 32 <= ord(sign) <= 126 and ord(sign) != 37


def _is_name(thing):
    return (type(thing) is str and 1 <= len(thing) <= NAME_LENGTH
            and all(["a" <= letter <= "z" for letter in thing]))


def _is_item_of(kind, item):
    """Return True if the kind is a kind, and an entry of it may have the item."""
    if type(kind) is not str:
        return False
    if kind == "amount":
        return is_integer(item)
    if kind == "flag":
        return is_integer(item) and item == 1
    return kind in ("value", "element") and is_item(item)


def _is_over(dot, thing):
    """Return True if a deed with this dot may overtake the thing."""
    return (type(thing) is tuple and all([is_dot(other) for other in thing])
            and ascends(thing) and dot not in thing)
