"""A yard: heaps by names, of any kind, and a ledger of all work."""

from heapwright.deeds import dropped, joined, lowered, put, taken
from heapwright.errors import Itself, NoHeap, NoKey, NoName, NoTicket, Taken, TooMany, Unlike
from heapwright.items import is_key, is_name, is_whole, refuse_no_kind
from heapwright.paid import credit, held
from heapwright.shapes import items_of, least, nothing

MOST_HEAPS = 12
MOST_ITEMS = 300


def credit_or_none(kind, word, n, m):
    """Tell the credit of a deed, None of pair."""
    return None if kind == "pair" else credit(kind, word, n, m=m)


class Yard:
    """Heaps by names, at first none."""

    def __init__(self):
        """Make a yard without heaps."""
        # Of each name a tuple (kind, shape), of each ticket the name of its heap.
        self.heaps = {}
        self.homes = {}
        self.next_ticket = 0
        self.rows = []

    def __len__(self):
        """Tell how many items all heaps have."""
        return len(self.homes)

    def heap(self, name):
        """Tell the kind and the shape of a heap, or raise NoHeap."""
        # Only a text can be asked for: lists are no keys of a dict.
        if not isinstance(name, str) or name not in self.heaps:
            raise NoHeap("no heap has this name")
        return self.heaps[name]

    def heap_items(self, name):
        """Tell the items of a heap, rising, or raise NoHeap."""
        kind, shape = self.heap(name)
        return items_of(kind, shape)

    def write(self, word, name, shape, work, *, other=None):
        """Give a heap its shape behind a deed, and write the deed's row; other is the heap that was joined to it."""
        kind, before = self.heap(name)
        ahead = held(kind, before)
        n, m = len(items_of(kind, before)), 0
        if other is not None:
            ahead += held(kind, self.heap(other)[1])
            m = len(self.heap_items(other))
        self.rows.append((word, work, held(kind, shape) - ahead, credit_or_none(kind, word, n, m)))
        self.heaps[name] = (kind, shape)

    def make(self, name, kind):
        """Make a heap of a kind; raise NoName, Taken, NoKind or TooMany."""
        if not is_name(name):
            raise NoName("it is no name for a heap")
        if name in self.heaps:
            raise Taken("a heap has this name already")
        refuse_no_kind(kind)
        if len(self.heaps) >= MOST_HEAPS:
            raise TooMany("there are as many heaps as a yard may have")
        self.heaps[name] = (kind, nothing(kind))

    def put(self, name, key):
        """Put a key in a heap and tell its ticket; raise NoHeap, NoKey or TooMany."""
        kind, shape = self.heap(name)
        if not is_key(key):
            raise NoKey("it is no key")
        if len(items_of(kind, shape)) >= MOST_ITEMS:
            raise TooMany("the heap has as many items as it may have")
        ticket = self.next_ticket
        made, work = put(kind, shape, (key, ticket))
        self.write("put", name, made, work)
        self.homes[ticket] = name
        self.next_ticket += 1
        return ticket

    def join(self, name, other):
        """Join the heap other to the heap name; other is gone then; raise NoHeap, Itself, Unlike or TooMany."""
        kind, shape = self.heap(name)
        other_kind, other_shape = self.heap(other)
        if name == other:
            raise Itself("a heap is not joined to itself")
        if kind != other_kind:
            raise Unlike("the heaps are of unlike kinds")
        coming = items_of(kind, other_shape)
        if len(items_of(kind, shape)) + len(coming) > MOST_ITEMS:
            raise TooMany("the heaps have more items together than one may have")
        made, work = joined(kind, shape, other_shape)
        self.write("join", name, made, work, other=other)
        del self.heaps[other]
        for item in coming:
            self.homes[item[1]] = name

    def take(self, name):
        """Take the least item out of a heap and tell it; raise NoHeap or Empty."""
        kind, shape = self.heap(name)
        item, made, work = taken(kind, shape)
        self.write("take", name, made, work)
        del self.homes[item[1]]
        return item

    def lower(self, ticket, key):
        """Lower the item of a ticket to a key; raise NoTicket, NoKey or Higher."""
        name = self.home(ticket)
        if not is_key(key):
            raise NoKey("it is no key")
        kind, shape = self.heap(name)
        made, work = lowered(kind, shape, ticket, key)
        self.write("lower", name, made, work)

    def drop(self, ticket):
        """Drop the item of a ticket; raise NoTicket."""
        name = self.home(ticket)
        kind, shape = self.heap(name)
        made, work = dropped(kind, shape, ticket)
        self.write("drop", name, made, work)
        del self.homes[ticket]

    def sink(self, name):
        """Sink a heap with all its items; raise NoHeap."""
        for item in self.heap_items(name):
            del self.homes[item[1]]
        del self.heaps[name]

    def names(self):
        """Tell the names of the heaps, rising."""
        return sorted(self.heaps)

    def kind(self, name):
        """Tell the kind of a heap, or raise NoHeap."""
        return self.heap(name)[0]

    def shape(self, name):
        """Tell the shape of a heap, or raise NoHeap."""
        return self.heap(name)[1]

    def items(self, name):
        """Tell the items of a heap, rising, or raise NoHeap."""
        return self.heap_items(name)

    def least(self, name):
        """Tell the least item of a heap; raise NoHeap or Empty."""
        kind, shape = self.heap(name)
        return least(kind, shape)

    def home(self, ticket):
        """Tell the name of the heap in which a ticket is, or raise NoTicket."""
        # True and False are like 1 and 0, but no tickets.
        if not is_whole(ticket) or ticket not in self.homes:
            raise NoTicket("the ticket is in no heap")
        return self.homes[ticket]

    def ledger(self):
        """Tell a row (word, work, more, credit) for each deed but make and sink, in order."""
        return list(self.rows)
