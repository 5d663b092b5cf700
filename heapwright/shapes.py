"""Shapes of each kind: what is one, which items it has, and where in it the item of a ticket is."""

from heapwright.errors import Empty
from heapwright.items import is_item, is_whole

SIDED = ("left", "skew")
# How many parts a tree has.
PARTS = {"left": 3, "skew": 3, "pair": 2, "count": 2, "cut": 3}


def nothing(kind):
    """Tell the shape of no items, which is the same in every kind."""
    return ()


def lone(kind, item):
    """Tell the shape of one item."""
    if kind in SIDED:
        return (item, (), ())
    if kind == "pair":
        return (item, ())
    if kind == "count":
        return ((item, ()),)
    return ((item, False, ()),)


def tops(kind, shape):
    """Tell the trees of a shape that stand in no other one, as a tuple."""
    if kind in ("count", "cut") or shape == ():
        return shape
    return (shape,)


def below(kind, tree):
    """Tell what stands directly in a tree: tuples (place, tree), where one sides have place 0, other sides 1."""
    if kind in SIDED:
        return [(place, side) for place, side in enumerate(tree[1:]) if side != ()]
    return list(enumerate(tree[-1]))


def walk(kind, shape):
    """Yield a row (tree, place, above) for each tree, where above is the row of the one it stands in, or None."""
    # Trees may stand all one within another, so a list keeps what waits; calls would lie too deep.
    waiting = [(tree, place, None) for place, tree in enumerate(tops(kind, shape))]
    while waiting:
        row = waiting.pop()
        # A tree is told ahead of what stands in it: who asks may stop where it is none.
        yield row
        for place, tree in below(kind, row[0]):
            waiting.append((tree, place, row))


def rank(tree):
    """Tell the rank of a tree of left."""
    many = 0
    while tree != ():
        many += 1
        tree = tree[2]
    return many


def has_form(kind, thing):
    """Tell whether thing has the parts of a tree, whatever stands below it."""
    if not isinstance(thing, tuple) or len(thing) != PARTS[kind] or not is_item(thing[0]):
        return False
    if kind in SIDED:
        return True
    if kind == "cut" and not isinstance(thing[1], bool):
        return False
    return isinstance(thing[-1], tuple)


def falls(tree, above):
    """Tell whether a tree's item is less than that of the tree it stands in, of which above is the row."""
    return above is not None and tree[0] < above[0][0]


def ranks_fit(kind, tree):
    """Tell whether the sides, or the children, directly in a tree are as high, or as many, as its kind wants."""
    if kind == "left":
        return rank(tree[1]) >= rank(tree[2])
    if kind == "count":
        return all([len(child[1]) == place for place, child in enumerate(tree[1])])
    if kind == "cut":
        return all([len(child[2]) >= (place - 1 if child[1] else place) for place, child in enumerate(tree[2])])
    return True


def tops_fit(kind, shape):
    """Tell whether the trees of a shape are beside one another as its kind wants them."""
    if kind == "count":
        ranks = [len(tree[1]) for tree in shape]
        return ranks == sorted(set(ranks))
    if kind == "cut":
        return not any([tree[1] for tree in shape])
    return True


def is_shape(kind, thing):
    """Tell whether thing is a shape of a kind."""
    if not isinstance(thing, tuple):
        return False
    tickets = set()
    for tree, place, above in walk(kind, thing):
        # As each tree needs a ticket of its own, a thing that has one tree at many places is soon left.
        if not has_form(kind, tree) or tree[0][1] in tickets or falls(tree, above):
            return False
        tickets.add(tree[0][1])
    for row in walk(kind, thing):
        if not ranks_fit(kind, row[0]):
            return False
    return tops_fit(kind, thing)


def items_of(kind, shape):
    """Tell the items of a shape, rising."""
    return sorted([row[0][0] for row in walk(kind, shape)])


def least(kind, shape):
    """Tell the least item of a shape, or raise Empty."""
    if shape == ():
        raise Empty("there is no item")
    return min([tree[0] for tree in tops(kind, shape)])


def spot_of(kind, shape, ticket):
    """Tell where the item of a ticket is: a tuple (tree, above, top), or None where the ticket is not there.

    tree has the item. above is a list of tuples (upper, place), from below up, of the trees in which it stands,
    each with the place at which it, or the tree ahead in the list, stands there. top is the place of the last of
    these trees among those of the shape.
    """
    # True and False are like 1 and 0, but no tickets.
    if not is_whole(ticket):
        return None
    for row in walk(kind, shape):
        if row[0][0][1] == ticket:
            return spot_at(row)
    return None


def spot_at(row):
    """Tell the spot of a row of a walk."""
    tree, place, above = row
    steps = []
    while above is not None:
        steps.append((above[0], place))
        place, above = above[1], above[2]
    return tree, steps, place


def has_to_move(above, item):
    """Tell whether a lowered item is less than that of the tree it stands in, if it stands in one."""
    if not above:
        return False
    upper, place = above[0]
    return item < upper[0]


def with_item(tree, item):
    """Tell a tree with another item."""
    return (item,) + tree[1:]
