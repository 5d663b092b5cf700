"""The deeds of each kind: putting, joining, taking, lowering and dropping, each told with its work."""

from heapwright.errors import Higher, NoTicket
from heapwright.items import refuse_twice
from heapwright.shapes import SIDED, least, lone, spot_of, walk
from heapwright.sides import met, side_dropped, side_lowered
from heapwright.ties import (
    count_dropped, count_joined, count_lowered, count_without, cut_dropped, cut_lowered, cut_without, gathered,
    least_place, pair_dropped, pair_lowered, paired)


def tickets_of(kind, shape):
    """Tell the tickets of a shape, in no promised order."""
    return [row[0][0][1] for row in walk(kind, shape)]


def found(kind, shape, ticket):
    """Tell the spot of a ticket in a shape, or raise NoTicket."""
    spot = spot_of(kind, shape, ticket)
    if spot is None:
        raise NoTicket("there is no such ticket")
    return spot


def put(kind, shape, item):
    """Tell the shape into which an item is put, and the work; raise Twice where its ticket is there."""
    # In each kind putting does to a shape what joining it with one of this item alone does.
    return joined(kind, shape, lone(kind, item))


def joined(kind, one, other):
    """Tell the shape that comes of two, and the work; raise Twice where a ticket is in both."""
    refuse_twice(tickets_of(kind, one), tickets_of(kind, other))
    if kind in SIDED:
        return met(kind, one, other)
    if kind == "pair":
        return paired(one, other)
    if kind == "count":
        return count_joined(one, other)
    return one + other, 0


def taken(kind, shape):
    """Tell the least item, the shape without it, and the work; raise Empty where there is none."""
    item = least(kind, shape)
    rest, work = without_least(kind, shape)
    return item, rest, work


def without_least(kind, shape):
    """Tell a shape, which is not (), without its least item, and the work."""
    if kind in SIDED:
        return met(kind, shape[1], shape[2])
    if kind == "pair":
        return gathered(shape[1])
    if kind == "count":
        return count_without(shape, least_place(shape))
    return cut_without(shape, least_place(shape))


def lowered(kind, shape, ticket, key):
    """Tell the shape in which the item of a ticket is lowered to a key, and the work; raise NoTicket or Higher."""
    spot = found(kind, shape, ticket)
    if key > spot[0][0][0]:
        raise Higher("the key is greater than the one that the item has")
    item = (key, ticket)
    if kind in SIDED:
        return side_lowered(kind, spot, item)
    if kind == "pair":
        return pair_lowered(spot, item)
    if kind == "count":
        return count_lowered(shape, spot, item)
    return cut_lowered(shape, spot, item)


def dropped(kind, shape, ticket):
    """Tell the shape from which the item of a ticket is dropped, and the work; raise NoTicket."""
    spot = found(kind, shape, ticket)
    if kind in SIDED:
        return side_dropped(kind, spot)
    if kind == "pair":
        return pair_dropped(spot)
    if kind == "count":
        return count_dropped(shape, spot)
    return cut_dropped(shape, spot)
