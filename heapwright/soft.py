"""Soft heaps: they give what may not be the least, as some of their items slip, but no more than is told."""

from heapwright.errors import Empty
from heapwright.items import is_item, is_key, is_whole, refuse_twice
from heapwright.ranks import joined_by_rank


def soft_walk(shape):
    """Yield a tuple (tree, above) for each tree of a soft shape, above the one it stands in, or None."""
    waiting = [(tree, None) for tree in shape]
    while waiting:
        tree, above = waiting.pop()
        # A tree is told ahead of its sides: who asks may stop where it is none.
        yield tree, above
        for side in tree[3:]:
            if side != ():
                waiting.append((side, tree))


def has_soft_form(thing, above):
    """Tell whether thing has the parts of a soft tree, whatever its sides are, and a rank less than that above."""
    if not isinstance(thing, tuple) or len(thing) != 5:
        return False
    rank, key, row = thing[:3]
    if not is_whole(rank) or rank < 0 or not is_key(key) or not isinstance(row, tuple) or row == ():
        return False
    if above is not None and rank != above[0] - 1:
        return False
    return all([is_item(item) and item[0] <= key for item in row])


def is_soft(thing):
    """Tell whether thing is a soft shape by its form."""
    if not isinstance(thing, tuple):
        return False
    tickets = set()
    for tree, above in soft_walk(thing):
        if not has_soft_form(tree, above):
            return False
        # As each tree needs tickets of its own, a thing that has one tree at many places is soon left.
        for item in tree[2]:
            if item[1] in tickets:
                return False
            tickets.add(item[1])
    ranks = [tree[0] for tree in thing]
    return ranks == sorted(set(ranks))


def grown(want):
    """Tell the want of a rank, above the slack, by that of a rank less."""
    return (3 * want + 1) // 2


def wants_more(many, rank, slack):
    """Tell whether the want of a rank is more than many."""
    want = 1
    # A shape may come with any rank, so the want grows no further than the answer needs.
    while want <= many and rank > slack:
        want = grown(want)
        rank -= 1
    return want > many


def filled(tree, slack):
    """Tell a soft tree that is filled."""
    # What stands in a tree may have to be filled ahead of it, and may stand deep: a list keeps what waits.
    waiting = [list(tree)]
    while True:
        rank, key, row, one, other = waiting[-1]
        if (one, other) != ((), ()) and wants_more(len(row), rank, slack):
            if one == () or (other != () and other[1] < one[1]):
                one, other = other, one
            emptied = [one[0], one[1], (), one[3], one[4]]
            waiting[-1] = [rank, one[1], row + one[2], (), other]
            if (one[3], one[4]) != ((), ()):
                waiting.append(emptied)
        else:
            done = tuple(waiting.pop())
            if not waiting:
                return done
            waiting[-1][3] = done


def soft_tied(one, other, slack):
    """Tell what comes of it where two soft trees of a rank are tied."""
    return filled((one[0] + 1, 0, (), one, other), slack)


def soft_tickets(shape):
    """Tell the tickets of a soft shape, in no promised order."""
    return [item[1] for tree, above in soft_walk(shape) for item in tree[2]]


def soft_lone(item):
    """Tell the soft shape of one item."""
    return ((0, item[0], (item,), (), ()),)


def soft_met(one, other, slack):
    """Tell the soft shape that comes of two, whatever their tickets are."""
    trees, ties = joined_by_rank(one, other, lambda tree: tree[0], lambda x, y: soft_tied(x, y, slack))
    return trees


def soft_put(shape, item, *, slack=4):
    """Tell the soft shape into which an item is put; raise Twice where its ticket is there."""
    return soft_joined(shape, soft_lone(item), slack=slack)


def soft_joined(one, other, *, slack=4):
    """Tell the soft shape that comes of two; raise Twice where a ticket is in both."""
    refuse_twice(soft_tickets(one), soft_tickets(other))
    return soft_met(one, other, slack)


def soft_taken(shape, *, slack=4):
    """Tell an item of the tree of the least key, and the soft shape without it; raise Empty where there is none."""
    if shape == ():
        raise Empty("there is no item")
    keys = [tree[1] for tree in shape]
    place = keys.index(min(keys))
    tree = shape[place]
    left = less_one(tree, slack)
    return tree[2][0], shape[:place] + left + shape[place + 1:]


def less_one(tree, slack):
    """Tell what is left of a soft tree without the first item of its row: a tuple of one tree, or of none."""
    rank, key, row, one, other = tree
    row = row[1:]
    if (one, other) == ((), ()):
        return () if row == () else ((rank, key, row, one, other),)
    # Twice as many are no more than the want where the want is more than one fewer.
    if wants_more(2 * len(row) - 1, rank, slack):
        return (filled((rank, key, row, one, other), slack),)
    return ((rank, key, row, one, other),)


def soft_items(shape):
    """Tell the items of a soft shape with the keys of their trees, a rising list of tuples (item, key)."""
    return sorted([(item, tree[1]) for tree, above in soft_walk(shape) for item in tree[2]])


def slipped(shape):
    """Tell the items of a soft shape that have slipped, rising."""
    return [item for item, key in soft_items(shape) if item[0] < key]


def may_slip(n, *, slack=4):
    """Tell how many of n items may slip."""
    many = 0
    want = 1
    rank = slack + 1
    while n >> rank > 0:
        want = grown(want)
        many += 3 * want * (n >> rank)
        rank += 1
    return many
