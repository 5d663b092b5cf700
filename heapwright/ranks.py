"""Joining by ranks: two rows of trees of unlike ranks, like numbers that are added with what is carried."""


def joined_by_rank(one, other, rank_of, tie):
    """Tell the trees that come of it where two shapes are joined through ranks, as a tuple, and how many were tied.

    rank_of tells a tree's rank; tie tells what comes of two trees of a rank, which is of the next rank.
    """
    waiting = list(one + other)
    carried = []
    trees = []
    work = 0
    while waiting or carried:
        rank = min([rank_of(tree) for tree in waiting + carried])
        # Those of the shapes stand ahead of the carried one: of three it is the one that stays.
        here = [tree for tree in waiting + carried if rank_of(tree) == rank]
        waiting = [tree for tree in waiting if rank_of(tree) != rank]
        carried = []
        if len(here) > 1:
            carried = [tie(here[0], here[1])]
            here = here[2:]
            work += 1
        trees.extend(here)
    return tuple(trees), work
