"""The kinds of heaps, and what a key, a ticket, an item and a name are."""

from heapwright.errors import NoKind, Twice

KINDS = ("left", "skew", "pair", "count", "cut")

KEY_BOUND = 10 ** 12
TICKET_BOUND = 10 ** 6

LETTERS = "abcdefghijklmnopqrstuvwxyz"
NAME_BOUND = 8


def is_whole(thing):
    """Tell whether thing is a whole number."""
    # Python counts True and False as integers; the document does not.
    return isinstance(thing, int) and not isinstance(thing, bool)


def is_key(thing):
    """Tell whether thing is a key."""
    return is_whole(thing) and -KEY_BOUND <= thing <= KEY_BOUND


def is_ticket(thing):
    """Tell whether thing is a ticket."""
    return is_whole(thing) and 0 <= thing <= TICKET_BOUND


def is_item(thing):
    """Tell whether thing is an item: a tuple (key, ticket)."""
    return isinstance(thing, tuple) and len(thing) == 2 and is_key(thing[0]) and is_ticket(thing[1])


def is_name(thing):
    """Tell whether thing is a name."""
    return isinstance(thing, str) and 1 <= len(thing) <= NAME_BOUND and all([sign in LETTERS for sign in thing])


def refuse_no_kind(thing):
    """Raise NoKind where thing is no kind of heap."""
    if thing not in KINDS:
        raise NoKind("it is no kind of heap")


def refuse_twice(tickets, others):
    """Raise Twice where a ticket is in both lists."""
    there = set(tickets)
    for ticket in others:
        if ticket in there:
            raise Twice("a ticket is there already")
