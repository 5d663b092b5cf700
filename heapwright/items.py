"""The kinds of heaps, and what a key, a ticket and an item are."""

from heapwright.errors import Twice

KINDS = ("left", "skew", "pair", "count", "cut")

KEY_BOUND = 10 ** 12
TICKET_BOUND = 10 ** 6


def is_whole(thing):
    """Tell whether thing is a whole number."""
    # Python counts True and False as integers; the document does not.
    return isinstance(thing, int) and not isinstance(thing, bool)


def is_key(thing):
    """Tell whether thing is a key."""
    return is_whole(thing) and -KEY_BOUND <= thing <= KEY_BOUND


def is_ticket(thing):
    """Tell whether thing is a ticket."""
    return is_whole(thing) and 0 <= thing <= TICKET_BOUND


def is_item(thing):
    """Tell whether thing is an item: a tuple (key, ticket)."""
    return isinstance(thing, tuple) and len(thing) == 2 and is_key(thing[0]) and is_ticket(thing[1])


def refuse_twice(tickets, others):
    """Raise Twice where a ticket is in both lists."""
    there = set(tickets)
    for ticket in others:
        if ticket in there:
            raise Twice("a ticket is there already")
