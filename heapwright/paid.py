"""What shapes hold, the credit that pays the work of a deed ahead, and shapes at which much is worked."""

from heapwright.deeds import put
from heapwright.errors import NoCredit
from heapwright.shapes import lone, walk


def heavy_others(shape):
    """Tell how many trees of skew are the other side of the one they stand in, and more than half of its size."""
    rows = list(walk("skew", shape))
    sizes = {row[0][0][1]: 1 for row in rows}
    # A walk tells what stands in a tree behind the tree, so backward each size is whole when it is added.
    for tree, place, above in reversed(rows):
        if above is not None:
            sizes[above[0][0][1]] += sizes[tree[0][1]]
    # The tree that stands in none has place 0.
    heavy = [tree for tree, place, above in rows if place == 1 and 2 * sizes[tree[0][1]] > sizes[above[0][0][1]]]
    return len(heavy)


def held(kind, shape):
    """Tell what a shape holds."""
    if kind == "skew":
        return heavy_others(shape)
    if kind == "count":
        return len(shape)
    if kind == "cut":
        return len(shape) + 2 * len([row for row in walk(kind, shape) if row[0][1]])
    return 0


def log(n):
    """Tell the greatest k with 2 to the k no more than n, which is at least 1."""
    return n.bit_length() - 1


def most_children(n):
    """Tell the greatest k such that the (k + 2)-th of 1, 1, 2, 3, 5, .. is no more than n, which is at least 1."""
    k = 0
    this, following = 1, 2
    while following <= n:
        this, following = following, this + following
        k += 1
    return k


def left_credit(deed, n, m):
    """Tell the credit of a deed of left."""
    if deed == "put":
        return log(n + 1)
    if deed == "join":
        return 0 if n == 0 or m == 0 else log(n + 1) + log(m + 1) - 1
    return 2 * log(n) if deed == "take" else 2 * log(n + 1)


def meeting_credit(n, m):
    """Tell the credit of a meeting of two trees of skew."""
    return 0 if n == 0 or m == 0 else 2 * log(n) + 2 * log(m) + 3


def skew_credit(deed, n, m):
    """Tell the credit of a deed of skew."""
    if deed == "put":
        return meeting_credit(n, 1)
    if deed == "join":
        return meeting_credit(n, m)
    return 4 * log(n) + 3 if deed == "take" else 5 * log(n) + 3


def count_credit(deed, n):
    """Tell the credit of a take, lower or drop of count."""
    if deed == "take":
        return log(n) - 1
    return log(n) if deed == "lower" else 2 * log(n) - 1


def cut_credit(deed, n):
    """Tell the credit of a take, lower or drop of cut."""
    if deed == "take":
        return most_children(n) - 1
    return 4 if deed == "lower" else most_children(n) + 3


def credit(kind, deed, n, *, m=0):
    """Tell the credit of a deed on a shape of n items, of a join with one of m; raise NoCredit of pair."""
    if kind == "pair":
        raise NoCredit("of pair there are no credits")
    if kind == "left":
        return left_credit(deed, n, m)
    if kind == "skew":
        return skew_credit(deed, n, m)
    if deed == "put":
        return 1
    if deed == "join":
        return 0
    return count_credit(deed, n) if kind == "count" else cut_credit(deed, n)


def full_tree(k, offset):
    """Tell a tree of left of rank k, all of it full; a tree that stands in d others has the key 2 * d + offset."""
    trees = [((2 * k - 2 + offset, 2 * place + offset), (), ()) for place in range(1 << k >> 1)]
    ticket = 2 * len(trees) + offset
    for depth in reversed(range(k - 1)):
        row = []
        for place in range(0, len(trees), 2):
            row.append(((2 * depth + offset, ticket), trees[place], trees[place + 1]))
            ticket += 2
        trees = row
    return trees[0]


def other_sides(k, offset):
    """Tell a tree of skew of k items, all other sides; one that stands in d others has the key 2 * d + offset."""
    tree = ()
    for depth in reversed(range(k)):
        key = 2 * depth + offset
        tree = ((key, key), (), tree)
    return tree


def far_join(kind, k):
    """Tell two shapes of left, or skew, which joined work 2 * k - 1."""
    # By even keys in the one and odd ones in the other each has its turn all the way down.
    if kind == "left":
        return full_tree(k, 0), full_tree(k, 1)
    return other_sides(k, 0), other_sides(k, 1)


def far_put(k):
    """Tell a shape of count of 2 to the k, less 1, items, into which a put works k."""
    shape = ()
    for ticket in range((1 << k) - 1):
        shape, work = put("count", shape, (ticket, ticket))
    return shape


def far_take(k):
    """Tell a shape of cut of 2 to the k, and 1, items, a take from which works 2 to the k, less 1."""
    shape = ()
    for ticket in range((1 << k) + 1):
        shape = shape + lone("cut", (ticket, ticket))
    return shape


def far_lower(k):
    """Tell a shape of cut of k + 1 items, and a ticket there, which lowered to the least key works k."""
    # The ticket is at the bottom, and all between it and the top are marked, so that each is cut.
    shape = lone("cut", (k, k))
    for key in reversed(range(k)):
        shape = (((key, key), key > 0, shape),)
    return shape, k
