"""Short ways to write out trees of each kind; where no ticket is told an item's ticket is its key."""

MOST = 300


def item(key, ticket=None):
    return (key, key if ticket is None else ticket)


def s(key, one=(), other=(), *, ticket=None):
    """A tree of left or skew, with two sides."""
    return (item(key, ticket), one, other)


def c(key, *children, ticket=None):
    """A tree of pair or count, with children."""
    return (item(key, ticket), children)


def k(key, *children, marked=False, ticket=None):
    """A tree of cut, with children."""
    return (item(key, ticket), marked, children)


def one_chain(keys):
    """A tree of left or skew in which all trees are one sides; the keys are told from the top down."""
    tree = ()
    for key in reversed(keys):
        tree = s(key, tree)
    return tree


def other_chain(keys):
    """A tree of skew in which all trees are other sides."""
    tree = ()
    for key in reversed(keys):
        tree = s(key, (), tree)
    return tree


def zigzag(keys):
    """A tree of skew in which one and other sides take turns."""
    tree = ()
    for key in reversed(keys):
        tree = s(key, tree) if key % 2 else s(key, (), tree)
    return tree


def child_chain(keys):
    """A tree of pair in which each tree has one child."""
    tree = ()
    for key in reversed(keys):
        tree = c(key, tree) if tree else c(key)
    return tree


def cut_chain(keys, *, marked=False):
    """A shape of cut of one tree in which each tree has one child, all marked but the top, or none."""
    trees = ()
    for place, key in reversed(list(enumerate(keys))):
        trees = (k(key, *trees, marked=marked and place > 0),)
    return trees


def count_tree(rank, keys):
    """A tree of count of a rank, its keys taken off the front of a list in the order of falling ranks."""
    key = keys.pop(0)
    children = [count_tree(lower, keys) for lower in reversed(range(rank))]
    return c(key, *reversed(children))


def count_shape(keys):
    """The shape of count that has keys, which rise: the lesser ones in the trees of higher ranks."""
    keys = list(keys)
    ranks = [rank for rank in range(len(keys).bit_length()) if len(keys) >> rank & 1]
    trees = [count_tree(rank, keys) for rank in reversed(ranks)]
    return tuple(reversed(trees))


def deepest(kind, keys):
    """Shapes of a kind in which trees stand one within another as deep as they may."""
    chains = {
        "left": [one_chain(keys)],
        "skew": [one_chain(keys), other_chain(keys), zigzag(keys)],
        "pair": [child_chain(keys)],
        "count": [count_shape(keys)],
        "cut": [cut_chain(keys), cut_chain(keys, marked=True)],
    }
    return chains[kind]
