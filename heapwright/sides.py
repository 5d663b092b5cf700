"""Trees with a one and an other side: how those of left and skew meet, and how one is taken out of another."""

from heapwright.shapes import has_to_move, rank, with_item


def turned(tree):
    """Tell a tree whose sides have changed, where the one's rank is less than the other's."""
    if rank(tree[1]) < rank(tree[2]):
        return (tree[0], tree[2], tree[1])
    return tree


def met(kind, one, other):
    """Tell what comes of it where two trees meet, and the work."""
    keepers = []
    while one != () and other != ():
        if other[0] < one[0]:
            one, other = other, one
        keepers.append(one)
        one = one[2]
    tree = other if one == () else one
    for keeper in reversed(keepers):
        if kind == "left":
            tree = turned((keeper[0], keeper[1], tree))
        else:
            tree = (keeper[0], tree, keeper[1])
    return tree, len(keepers)


def with_side(tree, place, side):
    """Tell a tree with another side at a place, 0 or 1."""
    if place == 0:
        return (tree[0], side, tree[2])
    return (tree[0], tree[1], side)


def put_in(kind, above, side):
    """Tell the top tree where side comes in the place of a tree that stood in those above; of left they turn."""
    for upper, place in above:
        side = with_side(upper, place, side)
        if kind == "left":
            side = turned(side)
    return side


def side_lowered(kind, spot, item):
    """Tell the tree in which the item at a spot is lowered to item, and the work."""
    tree, above, top = spot
    changed = with_item(tree, item)
    if not has_to_move(above, item):
        return put_in(kind, above, changed), 0
    return met(kind, changed, put_in(kind, above, ()))


def side_dropped(kind, spot):
    """Tell the tree from which the item at a spot is dropped, and the work."""
    tree, above, top = spot
    side, work = met(kind, tree[1], tree[2])
    return put_in(kind, above, side), work
