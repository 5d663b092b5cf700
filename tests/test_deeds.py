"""Points 6 to 11 of DOC.md: each deed of each kind on shapes written out by hand, with shape and work."""

import unittest

from heapwright.deeds import dropped, joined, lowered, put, taken
from heapwright.items import KINDS
from heapwright.shapes import is_shape, items_of
from tests.trees import MOST, c, deepest, item, k, s

FULL = s(1, s(2, s(4), s(5)), s(3, s(6), s(7)))
SMALL = c(1, c(2, c(4), c(5)), c(3))
EIGHT = c(1, c(2), c(3, c(4)), c(5, c(6), c(7, c(8))))
MARKED = (k(1, k(2, k(3, k(4, k(5)), marked=True), marked=True)),)


class Worked(unittest.TestCase):
    """Each check is of a kind, which a class below sets."""

    kind = None

    def told(self, answer, shape, work):
        self.assertEqual(answer, (shape, work))
        self.assertIs(is_shape(self.kind, answer[0]), True)

    def puts(self, shape, key, wanted, work, *, ticket=None):
        with self.subTest(self.kind, shape=shape, key=key):
            self.told(put(self.kind, shape, item(key, ticket)), wanted, work)

    def joins(self, one, other, wanted, work):
        with self.subTest(self.kind, one=one, other=other):
            self.told(joined(self.kind, one, other), wanted, work)

    def takes(self, shape, first, wanted, work):
        with self.subTest(self.kind, shape=shape):
            told = taken(self.kind, shape)
            self.assertEqual(told[0], first)
            self.told(told[1:], wanted, work)

    def lowers(self, shape, ticket, key, wanted, work):
        with self.subTest(self.kind, shape=shape, ticket=ticket, key=key):
            self.told(lowered(self.kind, shape, ticket, key), wanted, work)

    def drops(self, shape, ticket, wanted, work):
        with self.subTest(self.kind, shape=shape, ticket=ticket):
            self.told(dropped(self.kind, shape, ticket), wanted, work)


class LeftTest(Worked):
    kind = "left"

    def test_put(self):
        self.puts((), 5, s(5), 0)
        self.puts(s(1), 2, s(1, s(2)), 1)
        self.puts(s(2), 1, s(1, s(2)), 1)
        self.puts(s(1, s(2)), 3, s(1, s(2), s(3)), 1)
        self.puts(s(1, s(3), s(2)), 4, s(1, s(3), s(2, s(4))), 2)
        self.puts(FULL, 0, s(0, FULL), 1)

    def test_keys_alike(self):
        self.puts(s(1, ticket=3), 1, s(1, s(1, ticket=3), ticket=2), 1, ticket=2)
        self.puts(s(1, ticket=3), 1, s(1, s(1, ticket=4), ticket=3), 1, ticket=4)
        self.takes(s(1, s(1, ticket=5), s(1, ticket=4), ticket=3), (1, 3), s(1, s(1, ticket=5), ticket=4), 1)

    def test_join(self):
        self.joins((), (), (), 0)
        self.joins((), FULL, FULL, 0)
        self.joins(FULL, (), FULL, 0)
        one, other = s(1, s(3), s(5)), s(2, s(4), s(6))
        self.joins(one, other, s(1, s(2, s(4), s(5, s(6))), s(3)), 3)
        self.joins(other, one, s(1, s(2, s(4), s(5, s(6))), s(3)), 3)

    def test_take(self):
        self.takes(s(1), (1, 1), (), 0)
        self.takes(s(1, s(2)), (1, 1), s(2), 0)
        self.takes(s(1, s(2), s(3)), (1, 1), s(2, s(3)), 1)
        self.takes(FULL, (1, 1), s(2, s(3, s(6), s(5, s(7))), s(4)), 3)

    def test_a_lowered_item_that_stays(self):
        self.lowers(FULL, 5, 5, FULL, 0)
        self.lowers(FULL, 5, 4, s(1, s(2, s(4), s(4, ticket=5)), s(3, s(6), s(7))), 0)
        self.lowers(FULL, 5, 2, s(1, s(2, s(4), s(2, ticket=5)), s(3, s(6), s(7))), 0)
        self.lowers(FULL, 1, 1, FULL, 0)
        self.lowers(FULL, 1, -9, s(-9, *FULL[1:], ticket=1), 0)
        self.lowers(s(1), 1, -10 ** 12, s(-10 ** 12, ticket=1), 0)

    def test_a_lowered_item_that_moves(self):
        self.lowers(FULL, 5, 0, s(0, s(1, s(3, s(6), s(7)), s(2, s(4))), ticket=5), 1)
        self.lowers(FULL, 2, 0, s(0, s(1, s(3, s(6), s(7)), s(5)), s(4), ticket=2), 2)
        shape = s(1, s(2, s(4), s(5, ticket=0), ticket=9), s(3))
        self.lowers(shape, 0, 2, s(1, s(2, s(4), ticket=9), s(2, s(3), ticket=0)), 2)

    def test_drop(self):
        self.drops(s(1), 1, (), 0)
        self.drops(FULL, 1, s(2, s(3, s(6), s(5, s(7))), s(4)), 3)
        self.drops(FULL, 4, s(1, s(3, s(6), s(7)), s(2, s(5))), 0)
        self.drops(FULL, 3, s(1, s(2, s(4), s(5)), s(6, s(7))), 1)
        self.drops(FULL, 2, s(1, s(3, s(6), s(7)), s(4, s(5))), 1)


class SkewTest(Worked):
    kind = "skew"

    def test_put(self):
        self.puts((), 5, s(5), 0)
        self.puts(s(1), 2, s(1, s(2)), 1)
        self.puts(s(2), 1, s(1, s(2)), 1)
        self.puts(s(1, s(2)), 3, s(1, s(3), s(2)), 1)
        self.puts(s(1, s(3), s(2)), 4, s(1, s(2, s(4)), s(3)), 2)
        self.puts(FULL, 0, s(0, FULL), 1)

    def test_keys_alike(self):
        self.puts(s(1, ticket=3), 1, s(1, s(1, ticket=3), ticket=2), 1, ticket=2)
        self.puts(s(1, ticket=3), 1, s(1, s(1, ticket=4), ticket=3), 1, ticket=4)

    def test_join(self):
        self.joins((), (), (), 0)
        self.joins((), s(1, (), s(2)), s(1, (), s(2)), 0)
        self.joins(s(1, (), s(2)), (), s(1, (), s(2)), 0)
        one, other = s(1, s(3), s(5)), s(2, s(4), s(6))
        self.joins(one, other, s(1, s(2, s(5, s(6)), s(4)), s(3)), 3)
        self.joins(other, one, s(1, s(2, s(5, s(6)), s(4)), s(3)), 3)

    def test_take(self):
        self.takes(s(1), (1, 1), (), 0)
        self.takes(s(1, (), s(2, (), s(3))), (1, 1), s(2, (), s(3)), 0)
        self.takes(FULL, (1, 1), s(2, s(3, s(5, s(7)), s(6)), s(4)), 3)

    def test_a_lowered_item_that_stays(self):
        self.lowers(FULL, 5, 5, FULL, 0)
        self.lowers(FULL, 5, 4, s(1, s(2, s(4), s(4, ticket=5)), s(3, s(6), s(7))), 0)
        self.lowers(FULL, 5, 2, s(1, s(2, s(4), s(2, ticket=5)), s(3, s(6), s(7))), 0)
        self.lowers(FULL, 1, -9, s(-9, *FULL[1:], ticket=1), 0)

    def test_a_lowered_item_that_moves(self):
        self.lowers(FULL, 5, 0, s(0, s(1, s(2, s(4)), s(3, s(6), s(7))), ticket=5), 1)
        self.lowers(FULL, 2, 0, s(0, s(1, s(3, s(5, s(7)), s(6))), s(4), ticket=2), 4)
        shape = s(1, s(2, s(4), s(5, ticket=0), ticket=9), s(3))
        self.lowers(shape, 0, 2, s(1, s(2, s(3), ticket=0), s(2, s(4), ticket=9)), 2)

    def test_drop(self):
        self.drops(s(1), 1, (), 0)
        self.drops(FULL, 1, s(2, s(3, s(5, s(7)), s(6)), s(4)), 3)
        self.drops(FULL, 4, s(1, s(2, (), s(5)), s(3, s(6), s(7))), 0)
        self.drops(FULL, 2, s(1, s(4, s(5)), s(3, s(6), s(7))), 1)


class PairTest(Worked):
    kind = "pair"

    def test_put(self):
        self.puts((), 5, c(5), 0)
        self.puts(c(1), 2, c(1, c(2)), 1)
        self.puts(c(1, c(2)), 3, c(1, c(3), c(2)), 1)
        self.puts(c(1, c(2)), 0, c(0, c(1, c(2))), 1)

    def test_keys_alike(self):
        self.puts(c(1, ticket=3), 1, c(1, c(1, ticket=3), ticket=2), 1, ticket=2)
        self.puts(c(1, ticket=3), 1, c(1, c(1, ticket=4), ticket=3), 1, ticket=4)

    def test_join(self):
        self.joins((), (), (), 0)
        self.joins((), SMALL, SMALL, 0)
        self.joins(SMALL, (), SMALL, 0)
        self.joins(c(1, c(4)), c(2, c(3)), c(1, c(2, c(3)), c(4)), 1)
        self.joins(c(2, c(3)), c(1, c(4)), c(1, c(2, c(3)), c(4)), 1)

    def test_take(self):
        self.takes(c(1), (1, 1), (), 0)
        self.takes(c(1, c(2, c(3))), (1, 1), c(2, c(3)), 0)
        self.takes(c(1, c(2), c(3), c(4), c(5), c(6)), (1, 1), c(2, c(4, c(6), c(5)), c(3)), 4)
        self.takes(c(1, c(6), c(5), c(4), c(3)), (1, 1), c(3, c(5, c(6)), c(4)), 3)

    def test_a_lowered_item_that_stays(self):
        self.lowers(SMALL, 5, 5, SMALL, 0)
        self.lowers(SMALL, 5, 4, c(1, c(2, c(4), c(4, ticket=5)), c(3)), 0)
        self.lowers(SMALL, 5, 2, c(1, c(2, c(4), c(2, ticket=5)), c(3)), 0)
        self.lowers(SMALL, 1, 0, c(0, *SMALL[1], ticket=1), 0)

    def test_a_lowered_item_that_moves(self):
        self.lowers(SMALL, 5, 1, c(1, c(1, ticket=5), c(2, c(4)), c(3)), 1)
        self.lowers(SMALL, 5, 0, c(0, c(1, c(2, c(4)), c(3)), ticket=5), 1)
        self.lowers(SMALL, 2, 0, c(0, c(1, c(3)), c(4), c(5), ticket=2), 1)
        self.lowers(c(1, c(2, c(5, ticket=0), ticket=9)), 0, 2, c(1, c(2, ticket=0), c(2, ticket=9)), 1)

    def test_drop(self):
        self.drops(c(1), 1, (), 0)
        self.drops(SMALL, 1, c(2, c(3), c(4), c(5)), 1)
        self.drops(SMALL, 4, c(1, c(2, c(5)), c(3)), 0)
        self.drops(SMALL, 2, c(1, c(4, c(5)), c(3)), 2)


class CountTest(Worked):
    kind = "count"

    def test_put(self):
        self.puts((), 5, (c(5),), 0)
        self.puts((c(1),), 2, (c(1, c(2)),), 1)
        self.puts((c(1, c(2)),), 3, (c(3), c(1, c(2))), 0)
        self.puts((c(3), c(1, c(2))), 4, (c(1, c(2), c(3, c(4))),), 2)
        self.puts((c(3), c(1, c(2))), 0, (c(0, c(3), c(1, c(2))),), 2)

    def test_keys_alike(self):
        self.puts((c(1, ticket=3),), 1, (c(1, c(1, ticket=3), ticket=2),), 1, ticket=2)
        self.puts((c(1, ticket=3),), 1, (c(1, c(1, ticket=4), ticket=3),), 1, ticket=4)
        shape = (c(1, ticket=4), c(1, c(2), ticket=3))
        self.takes(shape, (1, 3), (c(1, c(2), ticket=4),), 1)

    def test_join(self):
        self.joins((), (), (), 0)
        self.joins((), (EIGHT,), (EIGHT,), 0)
        self.joins((EIGHT,), (), (EIGHT,), 0)
        one, other = (c(1), c(2, c(3))), (c(4), c(5, c(6)))
        wanted = (c(1, c(4)), c(2, c(3), c(5, c(6))))
        self.joins(one, other, wanted, 2)
        self.joins(other, one, wanted, 2)

    def test_take(self):
        self.takes((c(1),), (1, 1), (), 0)
        self.takes((c(3), c(1, c(2))), (1, 1), (c(2, c(3)),), 1)
        self.takes((c(1), c(2, c(3))), (1, 1), (c(2, c(3)),), 0)
        self.takes((EIGHT,), (1, 1), EIGHT[1], 0)

    def test_a_lowered_item_that_stays(self):
        self.lowers((EIGHT,), 8, 8, (EIGHT,), 0)
        up = c(1, c(2), c(3, c(4)), c(5, c(6), c(7, c(7, ticket=8))))
        self.lowers((EIGHT,), 8, 7, (up,), 0)
        self.lowers((EIGHT,), 1, -5, (c(-5, *EIGHT[1], ticket=1),), 0)
        self.lowers((c(9), c(1, c(2))), 9, 0, (c(0, ticket=9), c(1, c(2))), 0)

    def test_a_lowered_item_that_moves(self):
        up = c(1, c(2), c(3, c(4)), c(5, c(6), c(6, c(7), ticket=8)))
        self.lowers((EIGHT,), 8, 6, (up,), 1)
        up = c(0, c(2), c(3, c(4)), c(1, c(6), c(5, c(7))), ticket=8)
        self.lowers((EIGHT,), 8, 0, (up,), 3)
        self.lowers((c(2, c(5, ticket=0), ticket=9),), 0, 2, (c(2, c(2, ticket=9), ticket=0),), 1)

    def test_drop(self):
        self.drops((c(1),), 1, (), 0)
        self.drops((EIGHT,), 1, EIGHT[1], 0)
        self.drops((EIGHT,), 8, (c(2), c(3, c(4)), c(1, c(6), c(5, c(7)))), 3)
        self.drops((EIGHT,), 3, (c(2), c(1, c(4)), c(5, c(6), c(7, c(8)))), 1)
        self.drops((c(9), c(1, c(2))), 2, (c(1, c(9)),), 2)


class CutTest(Worked):
    kind = "cut"

    def test_put(self):
        self.puts((), 5, (k(5),), 0)
        self.puts((k(1),), 0, (k(1), k(0)), 0)
        self.puts(MARKED, 9, MARKED + (k(9),), 0)

    def test_keys_alike(self):
        self.puts((k(1, ticket=3),), 1, (k(1, ticket=3), k(1, ticket=2)), 0, ticket=2)
        self.takes((k(1, ticket=4), k(1, ticket=2), k(1, ticket=3)), (1, 2), (k(1, k(1, ticket=4), ticket=3),), 1)

    def test_join(self):
        self.joins((), (), (), 0)
        self.joins((), MARKED, MARKED, 0)
        self.joins(MARKED, (), MARKED, 0)
        self.joins((k(3), k(2)), (k(7), k(1)), (k(3), k(2), k(7), k(1)), 0)

    def test_take(self):
        self.takes((k(1),), (1, 1), (), 0)
        self.takes((k(3), k(1), k(2), k(4)), (1, 1), (k(4), k(2, k(3))), 1)
        shape = (k(5), k(1, k(2, marked=True), k(3, k(4, marked=True))))
        self.takes(shape, (1, 1), (k(2, k(5), k(3, k(4, marked=True))),), 2)

    def test_a_lowered_item_that_stays(self):
        self.lowers(MARKED, 5, 5, MARKED, 0)
        shape = (k(1, k(2, k(3, k(4, k(4, ticket=5)), marked=True), marked=True)),)
        self.lowers(MARKED, 5, 4, shape, 0)
        # A mark stays where the key alone is changed.
        self.lowers(MARKED, 3, 2, (k(1, k(2, k(2, k(4, k(5)), marked=True, ticket=3), marked=True)),), 0)
        self.lowers((k(9), k(1)), 9, 0, (k(0, ticket=9), k(1)), 0)

    def test_a_lowered_item_is_cut(self):
        shape = (k(1, k(2, k(3, k(4, marked=True), marked=True), marked=True)), k(0, ticket=5))
        self.lowers(MARKED, 5, 0, shape, 1)
        shape = (k(1, k(2, k(5, ticket=0), ticket=9)),)
        self.lowers(shape, 0, 2, (k(1, k(2, marked=True, ticket=9)), k(2, ticket=0)), 1)
        self.lowers((k(7), k(1, k(2)), k(8)), 2, 0, (k(7), k(1), k(8), k(0, ticket=2)), 1)

    def test_cuts_that_go_on_upward(self):
        self.lowers(MARKED, 4, 0, (k(1), k(0, k(5), ticket=4), k(3), k(2)), 3)
        self.lowers(MARKED, 3, 1, (k(1), k(1, k(4, k(5)), ticket=3), k(2)), 2)
        self.lowers(MARKED, 2, 0, (k(1), k(0, k(3, k(4, k(5)), marked=True), ticket=2)), 1)

    def test_drop(self):
        self.drops((k(1),), 1, (), 0)
        self.drops((k(3), k(5, k(6)), k(1)), 5, (k(6), k(1, k(3))), 1)
        shape = (k(1, k(2), k(3, k(4))),)
        self.drops(shape, 4, (k(1, k(2), k(3, marked=True)),), 1)
        self.drops(shape, 3, (k(4), k(1, k(2))), 1)
        self.drops(shape, 1, (k(2), k(3, k(4))), 0)

    def test_a_drop_that_cuts_upward(self):
        self.drops(MARKED, 4, (k(1, k(3), k(2, k(5))),), 6)


class ThreeHundredTest(unittest.TestCase):
    """Trees one within another as deep as they may stand: keys and tickets are 0, 1, 2, .. from the top down."""

    def told(self, kind, answer, items):
        shape, work = answer
        self.assertIs(is_shape(kind, shape), True, kind)
        self.assertEqual(items_of(kind, shape), items, kind)
        return work

    def each(self):
        for kind in KINDS:
            for shape in deepest(kind, range(MOST)):
                yield kind, shape, items_of(kind, shape)

    def test_put_and_join(self):
        works = []
        for kind, shape, items in self.each():
            works.append(self.told(kind, put(kind, shape, (MOST, MOST)), items + [(MOST, MOST)]))
            self.told(kind, put(kind, shape, (-1, MOST)), [(-1, MOST)] + items)
            self.assertEqual(joined(kind, shape, ()), (shape, 0))
            self.assertEqual(joined(kind, (), shape), (shape, 0))
        # Left; skew by its one sides, its other sides, and both in turn; pair; count; cut twice.
        self.assertEqual(works, [1, 1, 300, 2, 1, 0, 0, 0])

    def test_two_of_three_hundred_are_joined(self):
        for kind, shape, items in self.each():
            for other in deepest(kind, range(MOST, 2 * MOST)):
                self.told(kind, joined(kind, shape, other), items + items_of(kind, other))

    def test_take(self):
        works = []
        for kind, shape, items in self.each():
            told = taken(kind, shape)
            self.assertEqual(told[0], (0, 0))
            works.append(self.told(kind, told[1:], items[1:]))
        # Of count the trees of the ranks 2, 3 and 5 are tied with children of rank 8, and what is carried too.
        self.assertEqual(works, [0, 0, 0, 0, 0, 6, 0, 0])

    def test_lower(self):
        last = MOST - 1
        for kind, shape, items in self.each():
            for ticket in (0, MOST // 2, last):
                rest = [row for row in items if row[1] != ticket]
                self.assertEqual(lowered(kind, shape, ticket, ticket), (shape, 0))
                self.told(kind, lowered(kind, shape, ticket, -7), [(-7, ticket)] + rest)
        for place, shape in enumerate(deepest("cut", range(MOST))):
            self.assertEqual(lowered("cut", shape, last, -7)[1], (1, last)[place])

    def test_drop(self):
        for kind, shape, items in self.each():
            for ticket in (0, MOST // 2, MOST - 1):
                self.told(kind, dropped(kind, shape, ticket), [row for row in items if row[1] != ticket])

    def test_all_are_taken_out(self):
        for kind, shape, items in self.each():
            told = []
            while shape != ():
                first, shape, work = taken(kind, shape)
                told.append(first)
            self.assertEqual(told, items)


if __name__ == "__main__":
    unittest.main()
