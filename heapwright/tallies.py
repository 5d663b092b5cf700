"""A heap that is changed in place and sums up the work of its deeds."""

from heapwright.deeds import lowered, put, taken
from heapwright.items import refuse_no_kind
from heapwright.shapes import nothing


class Tally:
    """A heap of a kind; trees is its shape, work that of all its deeds."""

    def __init__(self, kind):
        """Make a heap of no items; raise NoKind."""
        refuse_no_kind(kind)
        self.of_kind = kind
        self.trees = nothing(kind)
        self.work = 0

    def put(self, item):
        """Put an item in."""
        self.trees, work = put(self.of_kind, self.trees, item)
        self.work += work

    def take(self):
        """Take the least item out and tell it."""
        item, self.trees, work = taken(self.of_kind, self.trees)
        self.work += work
        return item

    def lower(self, ticket, key):
        """Lower the item of a ticket to a key."""
        self.trees, work = lowered(self.of_kind, self.trees, ticket, key)
        self.work += work
