"""The refusals: each is a HeapError, and none of the others stands under another one."""


class HeapError(ValueError):
    """Any refusal."""


class Empty(HeapError):
    """There is no item to tell or to take."""


class Twice(HeapError):
    """A ticket would be there twice."""


class NoTicket(HeapError):
    """It is no ticket that is there."""


class Higher(HeapError):
    """The key is greater than the one that the item has."""


class NoCredit(HeapError):
    """No credit is told of this kind."""


class NoPlace(HeapError):
    """There is no such place."""


class NoKind(HeapError):
    """It is no kind of heap."""


class NoName(HeapError):
    """It is no name for a heap."""


class Taken(HeapError):
    """A heap has this name already."""


class TooMany(HeapError):
    """There would be more heaps, or more items, than a yard may have."""


class NoHeap(HeapError):
    """No heap has this name."""


class NoKey(HeapError):
    """It is no key."""


class Itself(HeapError):
    """A heap is not joined to itself."""


class Unlike(HeapError):
    """Heaps of unlike kinds are not joined."""
