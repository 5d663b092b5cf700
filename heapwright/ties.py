"""Trees with children: how those of pair, count and cut are tied, gathered, joined, raised and cut."""

from heapwright.ranks import joined_by_rank
from heapwright.shapes import has_to_move, with_item


def tied(kind, one, other):
    """Tell what comes of it where two trees are tied, which is one work."""
    lesser, greater = (other, one) if other[0] < one[0] else (one, other)
    if kind == "pair":
        return with_children(lesser, (greater,) + lesser[-1])
    return with_children(lesser, lesser[-1] + (greater,))


def with_children(tree, children):
    """Tell a tree with other children."""
    return tree[:-1] + (children,)


def replaced(trees, place, tree):
    """Tell trees with another one at a place."""
    return trees[:place] + (tree,) + trees[place + 1:]


def without(trees, place):
    """Tell trees without the one at a place."""
    return trees[:place] + trees[place + 1:]


def with_child(tree, place, child):
    """Tell a tree with another child at a place."""
    return with_children(tree, replaced(tree[-1], place, child))


def without_child(tree, place):
    """Tell a tree without its child at a place."""
    return with_children(tree, without(tree[-1], place))


def least_place(shape):
    """Tell the place of the tree of the least item among those of a shape of count or cut, which is not ()."""
    tops = [tree[0] for tree in shape]
    return tops.index(min(tops))


def put_in(above, tree):
    """Tell the top tree where tree comes in the place of one that stood in those above."""
    for upper, place in above:
        tree = with_child(upper, place, tree)
    return tree


def paired(one, other):
    """Tell what comes of it where two trees of pair, or (), are tied, and the work."""
    if one == ():
        return other, 0
    if other == ():
        return one, 0
    return tied("pair", one, other), 1


def gathered(children):
    """Tell what comes of it where children of a tree of pair are gathered, () of none, and the work."""
    work = 0
    twos = []
    for place in range(0, len(children), 2):
        second = children[place + 1] if place + 1 < len(children) else ()
        two, more = paired(children[place], second)
        twos.append(two)
        work += more
    tree = ()
    for two in reversed(twos):
        tree, more = paired(tree, two)
        work += more
    return tree, work


def pair_rest(above):
    """Tell what is left where a tree is taken out that stood in those above, () where it stood in none."""
    if not above:
        return ()
    upper, place = above[0]
    return put_in(above[1:], without_child(upper, place))


def pair_lowered(spot, item):
    """Tell the tree of pair in which the item at a spot is lowered to item, and the work."""
    tree, above, top = spot
    changed = with_item(tree, item)
    if not has_to_move(above, item):
        return put_in(above, changed), 0
    return paired(changed, pair_rest(above))


def pair_dropped(spot):
    """Tell the tree of pair from which the item at a spot is dropped, and the work."""
    tree, above, top = spot
    made, work = gathered(tree[1])
    rest, more = paired(made, pair_rest(above))
    return rest, work + more


def count_joined(one, other):
    """Tell what comes of it where two shapes of count are joined, and the work."""
    return joined_by_rank(one, other, lambda tree: len(tree[1]), lambda first, second: tied("count", first, second))


def count_without(shape, place):
    """Tell a shape of count without the item of its tree at a place, and the work."""
    return count_joined(shape[place][1], without(shape, place))


def raised(spot, item, *, whole=False):
    """Tell the top tree in which item has gone up from a spot, and the work; whole is all the way, whatever it is."""
    tree, above, top = spot
    tree = with_item(tree, item)
    work = 0
    for upper, place in above:
        goes_up = whole or item < upper[0]
        child = with_item(tree, upper[0]) if goes_up else tree
        tree = with_child(upper, place, child)
        if goes_up:
            tree = with_item(tree, item)
            work += 1
    return tree, work


def count_lowered(shape, spot, item):
    """Tell the shape of count in which the item at a spot is lowered to item, and the work."""
    tree, work = raised(spot, item)
    return replaced(shape, spot[2], tree), work


def count_dropped(shape, spot):
    """Tell the shape of count from which the item at a spot is dropped, and the work."""
    tree, above, top = spot
    up, work = raised(spot, tree[0], whole=True)
    rest, more = count_without(replaced(shape, top, up), top)
    return rest, work + more


def with_mark(tree, marked):
    """Tell a tree of cut that is marked, or not."""
    return (tree[0], marked, tree[2])


def settled(trees):
    """Tell the shape that is kept where trees of cut are gone through and tied, and the work."""
    kept = {}
    work = 0
    for tree in trees:
        while len(tree[2]) in kept:
            tree = tied("cut", kept.pop(len(tree[2])), tree)
            work += 1
        kept[len(tree[2])] = tree
    return tuple([kept[many] for many in sorted(kept)]), work


def cut_without(shape, place):
    """Tell a shape of cut without the item of its tree at a place, as a taking leaves it, and the work."""
    freed = [with_mark(child, False) for child in shape[place][2]]
    return settled(without(shape, place) + tuple(freed))


def cut_off(shape, spot, item):
    """Tell a shape of cut in which the tree at a spot, now of item, is cut from the one it stands in, and the work.

    Those that are cut stand behind the others, the tree of item first among them.
    """
    tree, above, top = spot
    steps = list(above)
    freed = []
    # The tree is cut whatever it is, just as a marked one is that a tree was cut from.
    rest = (item, True, tree[2])
    while steps and rest[1]:
        freed.append(with_mark(rest, False))
        upper, place = steps.pop(0)
        rest = without_child(upper, place)
    # A tree that stands in none is never marked.
    if steps:
        rest = with_mark(rest, True)
    return replaced(shape, top, put_in(steps, rest)) + tuple(freed), len(freed)


def cut_lowered(shape, spot, item):
    """Tell the shape of cut in which the item at a spot is lowered to item, and the work."""
    tree, above, top = spot
    if not has_to_move(above, item):
        return replaced(shape, top, put_in(above, with_item(tree, item))), 0
    return cut_off(shape, spot, item)


def cut_dropped(shape, spot):
    """Tell the shape of cut from which the item at a spot is dropped, and the work."""
    tree, above, top = spot
    if not above:
        return cut_without(shape, top)
    cut, work = cut_off(shape, spot, tree[0])
    rest, more = cut_without(cut, len(shape))
    return rest, work + more
