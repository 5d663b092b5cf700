"""Points 2, 4 and 5 of DOC.md: the items of a shape, the least one, the shape of none; and where an item is."""

import itertools
import unittest

from heapwright.errors import Empty, HeapError
from heapwright.items import KINDS
from heapwright.shapes import has_to_move, is_shape, items_of, least, lone, nothing, spot_of
from tests.trees import MOST, c, count_shape, deepest, item, k, one_chain, s

# Shapes that have the same items, key 7 three times, each with what stands where.
TREES = s(1, s(7, s(9), s(7, ticket=8)), s(2, s(7, ticket=0), s(4)))
PAIRS = c(1, c(7, c(9)), c(2, c(7, c(7, ticket=8), ticket=0)), c(4))
COUNTS = (c(9), c(7, c(7, ticket=8)), c(1, c(7, ticket=0), c(2, c(4))))
CUTS = (k(7, k(9), k(7, ticket=8, marked=True)), k(2, k(7, ticket=0)), k(4), k(1))
RISING = [(1, 1), (2, 2), (4, 4), (7, 0), (7, 7), (7, 8), (9, 9)]
ALIKE = (("left", TREES), ("skew", TREES), ("pair", PAIRS), ("count", COUNTS), ("cut", CUTS))
KEYS = [key * key for key in range(MOST)]


class ItemsOfTest(unittest.TestCase):
    def test_no_items(self):
        for kind in KINDS:
            self.assertEqual(items_of(kind, ()), [])

    def test_one_item(self):
        for kind, shape in (("left", s(5)), ("skew", s(5)), ("pair", c(5)), ("count", (c(5),)), ("cut", (k(5),))):
            self.assertEqual(items_of(kind, shape), [(5, 5)])

    def test_rising_by_key_and_then_by_ticket(self):
        for kind, shape in ALIKE:
            with self.subTest(kind):
                self.assertIs(is_shape(kind, shape), True)
                self.assertEqual(items_of(kind, shape), RISING)

    def test_sides_that_are_missing(self):
        self.assertEqual(items_of("skew", s(1, (), s(2, s(4), ()))), [(1, 1), (2, 2), (4, 4)])
        self.assertEqual(items_of("skew", s(1, (), s(2, (), s(4)))), [(1, 1), (2, 2), (4, 4)])

    def test_negative_keys(self):
        self.assertEqual(items_of("left", s(-3, s(-1, ticket=0), s(-2, ticket=1), ticket=5)), [(-3, 5), (-2, 1), (-1, 0)])

    def test_lists_of_tuples_that_are_new_each_time(self):
        for kind, shape in ALIKE:
            one, other = items_of(kind, shape), items_of(kind, shape)
            self.assertIs(type(one), list)
            self.assertIsNot(one, other)
            one.clear()
            self.assertEqual(other, RISING)
            other.append((0, 0))
            other[0] = None
            self.assertEqual(items_of(kind, shape), RISING)
            self.assertEqual(least(kind, shape), (1, 1))
            empty = items_of(kind, ())
            empty.append((1, 1))
            self.assertEqual(items_of(kind, ()), [])

    def test_three_hundred_items_one_within_another(self):
        for kind in KINDS:
            for shape in deepest(kind, range(MOST)):
                self.assertEqual(items_of(kind, shape), [(key, key) for key in range(MOST)])

    def test_three_hundred_items_in_other_forms(self):
        wanted = [(key, key) for key in KEYS]
        self.assertEqual(items_of("pair", c(0, *[c(key) for key in reversed(KEYS[1:])])), wanted)
        self.assertEqual(items_of("cut", tuple([k(key) for key in reversed(KEYS)])), wanted)
        self.assertEqual(items_of("count", count_shape(KEYS)), wanted)
        self.assertEqual(items_of("left", s(0, one_chain(KEYS[2::2]), one_chain(KEYS[1::2]))), wanted)


class LeastTest(unittest.TestCase):
    def test_no_items_are_refused(self):
        for kind in KINDS:
            for error in (Empty, HeapError, ValueError):
                with self.assertRaises(error):
                    least(kind, ())

    def test_the_top_of_a_tree(self):
        for kind in ("left", "skew"):
            self.assertEqual(least(kind, s(5)), (5, 5))
            self.assertEqual(least(kind, s(5, s(5, ticket=9), s(7))), (5, 5))
        self.assertEqual(least("skew", s(-5, (), s(7), ticket=3)), (-5, 3))
        self.assertEqual(least("pair", c(5)), (5, 5))
        self.assertEqual(least("pair", c(5, c(9), c(7, c(8)))), (5, 5))

    def test_in_any_tree_of_a_shape_of_count(self):
        for first, second, third in itertools.permutations((10, 20, 30)):
            shape = (c(first), c(second, c(second + 1)), c(third, c(third + 1), c(third + 2, c(third + 3))))
            self.assertEqual(least("count", shape), (10, 10))

    def test_in_any_tree_of_a_shape_of_cut(self):
        for keys in itertools.permutations((10, 20, 30, 40)):
            self.assertEqual(least("cut", tuple([k(key, k(key + 1)) for key in keys])), (10, 10))

    def test_keys_alike(self):
        self.assertEqual(least("count", (c(5, ticket=4), c(5, c(6), ticket=3))), (5, 3))
        self.assertEqual(least("count", (c(5, ticket=3), c(5, c(6), ticket=4))), (5, 3))
        self.assertEqual(least("cut", (k(5, ticket=4), k(5, ticket=2), k(5, ticket=3))), (5, 2))

    def test_of_all_kinds_alike(self):
        for kind, shape in ALIKE:
            self.assertEqual(least(kind, shape), (1, 1))

    def test_three_hundred_items_one_within_another(self):
        for kind in KINDS:
            for shape in deepest(kind, range(MOST)):
                self.assertEqual(least(kind, shape), (0, 0))


class NothingTest(unittest.TestCase):
    def test_nothing_of_every_kind(self):
        for kind in KINDS:
            self.assertEqual(nothing(kind), ())
            self.assertIs(type(nothing(kind)), tuple)
            self.assertIs(is_shape(kind, nothing(kind)), True)
            self.assertEqual(items_of(kind, nothing(kind)), [])

    def test_one_item_of_every_kind(self):
        wanted = {"left": s(5, ticket=2), "skew": s(5, ticket=2), "pair": c(5, ticket=2),
                  "count": (c(5, ticket=2),), "cut": (k(5, ticket=2),)}
        for kind in KINDS:
            self.assertEqual(lone(kind, (5, 2)), wanted[kind])
            self.assertIs(is_shape(kind, lone(kind, (5, 2))), True)


class SpotTest(unittest.TestCase):
    def test_sides(self):
        low = s(4, s(6), s(5))
        high = s(2, s(7), low)
        top = s(1, high, s(3))
        for kind in ("left", "skew"):
            self.assertEqual(spot_of(kind, top, 1), (top, [], 0))
            self.assertEqual(spot_of(kind, top, 2), (high, [(top, 0)], 0))
            self.assertEqual(spot_of(kind, top, 3), (s(3), [(top, 1)], 0))
            self.assertEqual(spot_of(kind, top, 5), (s(5), [(low, 1), (high, 1), (top, 0)], 0))
            self.assertEqual(spot_of(kind, top, 6), (s(6), [(low, 0), (high, 1), (top, 0)], 0))
        top = s(1, (), s(2))
        self.assertEqual(spot_of("skew", top, 2), (s(2), [(top, 1)], 0))

    def test_children(self):
        low = c(4, c(5), c(6), c(7))
        top = c(1, c(2), low)
        self.assertEqual(spot_of("pair", top, 1), (top, [], 0))
        self.assertEqual(spot_of("pair", top, 4), (low, [(top, 1)], 0))
        self.assertEqual(spot_of("pair", top, 6), (c(6), [(low, 1), (top, 1)], 0))

    def test_many_trees(self):
        low = c(4, c(5))
        top = c(1, c(2), low)
        self.assertEqual(spot_of("count", (c(8), top), 8), (c(8), [], 0))
        self.assertEqual(spot_of("count", (c(8), top), 1), (top, [], 1))
        self.assertEqual(spot_of("count", (c(8), top), 5), (c(5), [(low, 0), (top, 1)], 1))
        low = k(4, k(5, marked=True), marked=True)
        top = k(1, k(2), low)
        self.assertEqual(spot_of("cut", (k(8), k(9), top, k(7)), 5), (k(5, marked=True), [(low, 0), (top, 1)], 2))
        self.assertEqual(spot_of("cut", (k(8), k(9), top, k(7)), 7), (k(7), [], 3))

    def test_it_goes_by_tickets_and_not_by_keys(self):
        top = s(1, s(2, ticket=3), s(3, ticket=2), ticket=5)
        self.assertEqual(spot_of("left", top, 3)[0], s(2, ticket=3))
        self.assertEqual(spot_of("left", top, 2)[0], s(3, ticket=2))
        self.assertIsNone(spot_of("left", top, 1))

    def test_what_is_no_ticket_there(self):
        for kind, shape in ALIKE + tuple([(kind, ()) for kind in KINDS]):
            for thing in (3, 5, -1, 10 ** 39, True, False, None, "1", "", (), [], (1, 1), [1], ((1, 1), (), ())):
                self.assertIsNone(spot_of(kind, shape, thing), (kind, thing))

    def test_at_the_bottom_of_three_hundred(self):
        for kind in ("left", "skew", "pair", "cut"):
            for shape in deepest(kind, range(MOST)):
                tree, above, top = spot_of(kind, shape, MOST - 1)
                self.assertEqual((tree[0], len(above), top), (item(MOST - 1), MOST - 1, 0))
                self.assertEqual([upper[0] for upper, place in above], [item(key) for key in reversed(range(MOST - 1))])

    def test_what_has_to_move(self):
        above = spot_of("left", s(1, s(5, s(8), ticket=4)), 8)[1]
        for key, ticket, wanted in ((9, 8, False), (5, 8, False), (5, 4, False), (5, 3, True), (4, 8, True), (-9, 8, True)):
            self.assertIs(has_to_move(above, (key, ticket)), wanted)
        self.assertIs(has_to_move([], (-9, 8)), False)


if __name__ == "__main__":
    unittest.main()
