"""Webs: places and the rows between them, shortest roads with their papers, and cheapest woods."""

from heapwright.errors import NoPlace
from heapwright.items import is_whole
from heapwright.tallies import Tally

MOST_PLACES = 40
MOST_ROWS = 200
LENGTH_BOUND = 10 ** 9


def is_number(thing, low, high):
    """Tell whether thing is a whole number from low to high."""
    return is_whole(thing) and low <= thing <= high


def is_row(many, thing):
    """Tell whether thing is a row of a web of so many places."""
    if not isinstance(thing, tuple) or len(thing) != 3:
        return False
    one, other, length = thing
    if not is_number(one, 0, many - 1) or not is_number(other, 0, many - 1) or one == other:
        return False
    return is_number(length, 0, LENGTH_BOUND)


def is_web(thing):
    """Tell whether thing is a web."""
    if not isinstance(thing, tuple) or len(thing) != 2:
        return False
    many, rows = thing
    if not is_number(many, 1, MOST_PLACES) or not isinstance(rows, tuple) or len(rows) > MOST_ROWS:
        return False
    if not all([is_row(many, row) for row in rows]):
        return False
    # Where rows rise and no pair is there twice the pairs rise too, and none is there twice.
    pairs = [row[:2] for row in rows]
    return pairs == sorted(set(pairs))


def travelled(web, start, heap):
    """Tell the lengths of shortest roads from a start, and the places in the order in which a heap gave them."""
    many, rows = web
    lengths = [None] * many
    lengths[start] = 0
    order = []
    heap.put((0, start))
    while heap.trees != ():
        length, place = heap.take()
        order.append(place)
        for other, more in [row[1:] for row in rows if row[0] == place]:
            so_far = lengths[other]
            if so_far is None:
                heap.put((length + more, other))
            # A place that was taken out is never nearer so, as no row is below 0: what is lowered waits.
            elif length + more < so_far:
                heap.lower(other, length + more)
            else:
                continue
            lengths[other] = length + more
    return lengths, order


def makers(web, lengths, order):
    """Tell the pairs (one, other) of rows that just make other's length from one, a place ahead of it in order."""
    turns = {place: turn for turn, place in enumerate(order)}
    pairs = []
    for one, other, length in web[1]:
        if one in turns and other in turns and turns[one] < turns[other]:
            if lengths[one] + length == lengths[other]:
                pairs.append((one, other))
    return pairs


def roads(web, start, *, kind="cut"):
    """Tell the lengths of shortest roads from a start, the places ahead, and the work; raise NoPlace or NoKind."""
    if not is_number(start, 0, web[0] - 1):
        raise NoPlace("there is no such place")
    heap = Tally(kind)
    lengths, order = travelled(web, start, heap)
    ahead = [None] * web[0]
    # Rows rise, so backward the least place is told last.
    for one, other in reversed(makers(web, lengths, order)):
        ahead[other] = one
    return lengths, ahead, heap.work


def are_lengths(many, thing):
    """Tell whether thing is a list with a length or None for each of so many places."""
    if not isinstance(thing, list) or len(thing) != many:
        return False
    return all([length is None or (is_whole(length) and length >= 0) for length in thing])


def is_order(lengths, thing):
    """Tell whether thing is a list of all places that have a length, each once."""
    if not isinstance(thing, list) or not all([is_whole(place) for place in thing]):
        return False
    return sorted(thing) == [place for place, length in enumerate(lengths) if length is not None]


def none_is_nearer(web, lengths):
    """Tell whether no row goes on to a place without a length, or to one with a greater length than it makes."""
    for one, other, length in web[1]:
        if lengths[one] is not None:
            if lengths[other] is None or lengths[other] > lengths[one] + length:
                return False
    return True


def is_paper(web, start, lengths, order):
    """Tell whether lengths and order are a right paper of shortest roads from a start."""
    if not are_lengths(web[0], lengths) or not is_order(lengths, order):
        return False
    if order == [] or order[0] != start or lengths[start] != 0 or not none_is_nearer(web, lengths):
        return False
    made = [other for one, other in makers(web, lengths, order)]
    return all([place in made for place in order[1:]])


def cheapest(web, *, kind="pair"):
    """Tell the rows of a cheapest wood, their lengths together, and the work; raise NoKind."""
    many, rows = web
    heap = Tally(kind)
    for place, row in enumerate(rows):
        heap.put((row[2], place))
    # Places hang together where they have the same number here.
    groups = list(range(many))
    kept = []
    while heap.trees != ():
        row = rows[heap.take()[1]]
        mine, gone = groups[row[0]], groups[row[1]]
        if mine != gone:
            kept.append(row)
            groups = [mine if group == gone else group for group in groups]
    return kept, sum([row[2] for row in kept]), heap.work
