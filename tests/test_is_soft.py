"""Points 2, 15 and 17 of DOC.md: whether a thing is a soft shape, by its form; shapes spoilt at any place."""

import unittest

from heapwright.soft import is_soft
from tests.things import FORTY_FIGURES, NO_NUMBERS, deep_things, within

LEAF = (0, 4, ((4, 4),), (), ())
OTHER = (0, 9, ((9, 9), (6, 6)), (), ())
TREE = (1, 3, ((1, 1), (3, 3)), LEAF, OTHER)
HIGH = (2, 2, ((2, 2),), (), (1, 8, ((8, 8),), (0, 8, ((7, 7),), (), ()), ()))
SHAPE = ((0, 5, ((5, 5),), (), ()), TREE, HIGH)


def changed(parts, place, part):
    return parts[:place] + (part,) + parts[place + 1:]


def spots(shape):
    """For each tree within a shape, the tree and a function that tells the shape with another in its place."""
    for place, tree in enumerate(shape):
        yield from spots_in(tree, lambda new, place=place: changed(shape, place, new))


def spots_in(tree, rebuilt):
    yield tree, rebuilt
    for place in (3, 4):
        if tree[place] != ():
            yield from spots_in(tree[place], lambda new, place=place: rebuilt(changed(tree, place, new)))


class IsSoftTest(unittest.TestCase):
    def no(self, thing):
        self.assertIs(is_soft(thing), False)

    def yes(self, thing):
        self.assertIs(is_soft(thing), True)

    def everywhere(self, change):
        """Check that no shape is left where one tree, anywhere, is changed."""
        seen = 0
        for tree, rebuilt in spots(SHAPE):
            with self.subTest(tree=tree):
                self.yes(rebuilt(tree))
                self.no(rebuilt(change(tree)))
            seen += 1
        self.assertEqual(seen, 7)

    def test_shapes(self):
        for shape in ((), (LEAF,), (TREE,), (HIGH,), SHAPE):
            self.yes(shape)

    def test_sides_may_lack_at_any_rank(self):
        self.yes(((5, 1, ((1, 1),), (), ()),))
        self.yes(((1, 1, ((1, 1),), LEAF, ()),))
        self.yes(((1, 1, ((1, 1),), (), LEAF),))
        self.yes(((FORTY_FIGURES, 1, ((1, 1),), (), ()),))

    def test_keys_of_sides_are_not_looked_at(self):
        self.yes(((1, 8, ((8, 8),), LEAF, ()),))

    def test_rows(self):
        self.yes(((0, 9, ((9, 1), (9, 2), (-9, 3)), (), ()),))
        self.yes(((0, 10 ** 12, ((10 ** 12, 10 ** 6),), (), ()),))
        self.yes(((0, -10 ** 12, ((-10 ** 12, 0),), (), ()),))
        self.everywhere(lambda tree: changed(tree, 2, ()))
        self.everywhere(lambda tree: changed(tree, 2, list(tree[2])))
        self.everywhere(lambda tree: changed(tree, 2, [tree[2][0]]))
        self.everywhere(lambda tree: changed(tree, 2, tree[2][0]))
        for thing in ([0, 50], (0,), (0, 50, 1), (True, 50), (0, True), (0, -1), (0, 10 ** 6 + 1),
                      (-10 ** 12 - 1, 50), None, 0, "a", ("0", 50), (None, 50), (), []):
            self.everywhere(lambda tree: changed(tree, 2, tree[2] + (thing,)))
            self.everywhere(lambda tree: changed(tree, 2, (thing,) + tree[2]))

    def test_a_key_below_one_of_the_row(self):
        self.everywhere(lambda tree: changed(tree, 1, max(tree[2])[0] - 1))
        self.everywhere(lambda tree: changed(tree, 2, tree[2] + ((tree[1] + 1, 50),)))
        self.everywhere(lambda tree: changed(tree, 2, ((tree[1] + 1, 50),) + tree[2]))

    def test_things_that_are_no_keys(self):
        for thing in (10 ** 12 + 1, FORTY_FIGURES) + NO_NUMBERS:
            self.everywhere(lambda tree: changed(tree, 1, thing))
        for key in (True, False):
            self.no(((0, key, ((-5, 5),), (), ()),))

    def test_ranks_of_sides(self):
        self.everywhere_below(lambda tree: changed(tree, 0, tree[0] + 1))
        self.everywhere_below(lambda tree: changed(tree, 0, tree[0] - 1))
        self.no(((0, 9, ((1, 1),), LEAF, ()),))
        self.no(((0, 9, ((1, 1),), (-1, 4, ((4, 4),), (), ()), ()),))
        self.no(((1, 9, ((1, 1),), (1, 4, ((4, 4),), (), ()), ()),))
        self.no(((3, 9, ((1, 1),), (), LEAF),))

    def everywhere_below(self, change):
        for tree, rebuilt in spots(SHAPE):
            if tree not in SHAPE:
                self.no(rebuilt(change(tree)))

    def test_ranks_of_the_trees_rise(self):
        first, second, third = SHAPE
        for shape in ((second, first), (first, third, second), (third, second, first), (LEAF, first), (first, LEAF)):
            self.no(shape)
        self.yes((first, third))

    def test_things_that_are_no_ranks(self):
        for thing in (-1, -FORTY_FIGURES) + NO_NUMBERS:
            self.everywhere(lambda tree: changed(tree, 0, thing))
        self.no(((True, 5, ((5, 5),), (), ()),))
        self.no(((1, 5, ((5, 5),), (False, 4, ((4, 4),), (), ()), ()),))
        self.no(((2, 5, ((5, 5),), (True, 4, ((4, 4),), (), ()), ()),))

    def test_tickets_twice(self):
        self.everywhere(lambda tree: changed(tree, 2, tree[2] + tree[2][:1]))
        self.everywhere(lambda tree: changed(tree, 2, tree[2] + ((-1, tree[2][0][1]),)))
        for ticket in range(1, 10):
            self.everywhere(lambda tree: changed(tree, 2, tree[2] + ((-1, ticket),)))
        self.no(((1, 1, ((1, 1),), LEAF, LEAF),))

    def test_sides_that_are_no_trees(self):
        for thing in (5, True, None, "a", [], [0], (0,), ((),), LEAF[:4], LEAF + ((),), list(LEAF), (LEAF,)):
            for place in (3, 4):
                self.everywhere(lambda tree: changed(tree, place, thing))

    def test_other_parts(self):
        self.everywhere(lambda tree: tree[:4])
        self.everywhere(lambda tree: tree + ((),))
        self.everywhere(list)
        self.everywhere(lambda tree: None)
        self.everywhere(lambda tree: (tree,))
        # () is a side, but no tree of a shape.
        self.no(((),))
        self.no((LEAF, ()))
        self.no(((), LEAF))

    def test_things_of_all_kinds(self):
        for thing in NO_NUMBERS + (0, 5, -5, FORTY_FIGURES, list(SHAPE), [LEAF], LEAF, TREE, [()]):
            with self.subTest(thing=thing):
                self.assertIs(is_soft(thing), thing == ())
        for thing in deep_things():
            self.no(thing)

    def test_forty_within_one_another(self):
        for place in (3, 4):
            tree = ()
            for rank in range(36):
                tree = changed((rank, 50, ((rank, rank),), (), ()), place, tree)
            self.yes((tree,))
            self.no(tree)
            self.no([tree])
            self.no((changed(tree, 0, 1),))
        for core in ((), [], 5, True, None, "a"):
            self.no(within(39, lambda x: (1, 5, ((5, 5),), x, ()), core))
            self.no(within(39, lambda x: (0, 0, x, 0, 0), core))

    def test_one_tree_at_many_places_is_soon_left(self):
        tree = LEAF
        for rank in range(1, 38):
            tree = (rank, 9, ((9, 100 + rank),), tree, tree)
        self.no((tree,))


if __name__ == "__main__":
    unittest.main()
