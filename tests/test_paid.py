"""Points 12 to 14 of DOC.md: what shapes hold, credits, and shapes at which much is worked."""

import unittest

from heapwright.deeds import dropped, joined, lowered, put, taken
from heapwright.errors import NoCredit
from heapwright.items import KINDS
from heapwright.paid import credit, far_join, far_lower, far_put, far_take, held
from heapwright.shapes import is_shape, items_of
from tests.trees import MOST, c, count_shape, cut_chain, deepest, k, one_chain, other_chain, s, zigzag

DEEDS = ("put", "join", "take", "lower", "drop")


class HeldTest(unittest.TestCase):
    def test_nothing_holds_nothing(self):
        for kind in KINDS:
            self.assertEqual(held(kind, ()), 0)

    def test_left_and_pair_hold_nothing(self):
        self.assertEqual(held("left", s(1, s(2), s(3, s(4)))), 0)
        self.assertEqual(held("left", one_chain(range(9))), 0)
        self.assertEqual(held("pair", c(1, c(2), c(3, c(4)))), 0)

    def test_skew_holds_its_heavy_other_sides(self):
        self.assertEqual(held("skew", s(1)), 0)
        self.assertEqual(held("skew", s(1, s(2))), 0)
        # Just half of the size is not more than half.
        self.assertEqual(held("skew", s(1, (), s(2))), 0)
        self.assertEqual(held("skew", s(1, s(4), s(2, s(3)))), 0)
        self.assertEqual(held("skew", s(1, (), s(2, s(3)))), 1)
        self.assertEqual(held("skew", s(1, (), s(2, (), s(3)))), 1)
        self.assertEqual(held("skew", s(1, s(5), s(2, s(3), s(4)))), 1)
        self.assertEqual(held("skew", s(1, s(2, (), s(3, s(4), s(5))), s(6, (), s(7, s(8))))), 2)
        # A one side, however great, is none.
        self.assertEqual(held("skew", s(1, s(2, s(3, s(4), s(5))))), 0)

    def test_skew_with_keys_alike(self):
        shape = s(4, s(4, ticket=2), s(4, s(4, ticket=4), s(4, ticket=5), ticket=3), ticket=1)
        self.assertEqual(held("skew", shape), 1)
        shape = s(4, (), s(4, (), s(4, (), s(4, ticket=9), ticket=0), ticket=5), ticket=7)
        self.assertEqual(held("skew", shape), 2)

    def test_skew_of_many(self):
        self.assertEqual(held("skew", one_chain(range(MOST))), 0)
        self.assertEqual(held("skew", other_chain(range(MOST))), MOST - 2)
        # Each second tree is an other side; the last one is just half of the two.
        self.assertEqual(held("skew", zigzag(range(MOST))), MOST // 2 - 1)

    def test_count_holds_its_trees(self):
        self.assertEqual(held("count", (c(1),)), 1)
        self.assertEqual(held("count", (c(1, c(2), c(3, c(4))),)), 1)
        self.assertEqual(held("count", (c(5), c(1, c(2), c(3, c(4))))), 2)
        self.assertEqual(held("count", count_shape(range(255))), 8)
        self.assertEqual(held("count", count_shape(range(256))), 1)

    def test_cut_holds_its_trees_and_twice_its_marks(self):
        self.assertEqual(held("cut", (k(1),)), 1)
        self.assertEqual(held("cut", (k(1), k(2), k(3, k(4)))), 3)
        self.assertEqual(held("cut", (k(1, k(2, marked=True)),)), 3)
        self.assertEqual(held("cut", (k(1, k(2, k(3, marked=True), marked=True)), k(4))), 6)
        self.assertEqual(held("cut", cut_chain(range(MOST))), 1)
        self.assertEqual(held("cut", cut_chain(range(MOST), marked=True)), 1 + 2 * (MOST - 1))


class CreditTest(unittest.TestCase):
    def told(self, kind, deed, table):
        for n, wanted in table.items():
            with self.subTest(kind, deed=deed, n=n):
                self.assertEqual(credit(kind, deed, n), wanted)
                self.assertEqual(credit(kind, deed, n, m=0), wanted)

    def joins(self, kind, table):
        for (n, m), wanted in table.items():
            with self.subTest(kind, n=n, m=m):
                self.assertEqual(credit(kind, "join", n, m=m), wanted)
                self.assertEqual(credit(kind, "join", m, m=n), wanted)

    def test_left(self):
        self.told("left", "put", {0: 0, 1: 1, 2: 1, 3: 2, 6: 2, 7: 3, 8: 3, 254: 7, 255: 8, 300: 8})
        self.told("left", "take", {1: 0, 2: 2, 3: 2, 4: 4, 7: 4, 8: 6, 9: 6, 255: 14, 256: 16, 300: 16})
        for deed in ("lower", "drop"):
            self.told("left", deed, {1: 2, 2: 2, 3: 4, 4: 4, 6: 4, 7: 6, 8: 6, 254: 14, 255: 16, 300: 16})
        self.joins("left", {(1, 1): 1, (1, 2): 1, (1, 3): 2, (2, 3): 2, (3, 3): 3, (7, 1): 3, (7, 8): 5, (255, 254): 14})
        self.joins("left", {(0, 0): 0, (0, 1): 0, (0, 7): 0, (0, 300): 0})

    def test_skew(self):
        self.told("skew", "put", {0: 0, 1: 3, 2: 5, 3: 5, 4: 7, 7: 7, 8: 9, 255: 17, 256: 19, 300: 19})
        self.told("skew", "take", {1: 3, 2: 7, 3: 7, 4: 11, 7: 11, 8: 15, 255: 31, 256: 35, 300: 35})
        for deed in ("lower", "drop"):
            self.told("skew", deed, {1: 3, 2: 8, 3: 8, 4: 13, 7: 13, 8: 18, 255: 38, 256: 43, 300: 43})
        self.joins("skew", {(1, 1): 3, (1, 2): 5, (2, 4): 9, (3, 3): 7, (7, 8): 13, (255, 256): 33})
        self.joins("skew", {(0, 0): 0, (0, 1): 0, (0, 300): 0})

    def test_count(self):
        self.told("count", "put", {0: 1, 1: 1, 2: 1, 3: 1, 300: 1})
        self.told("count", "take", {1: -1, 2: 0, 3: 0, 4: 1, 7: 1, 8: 2, 255: 6, 256: 7, 300: 7})
        self.told("count", "lower", {1: 0, 2: 1, 3: 1, 4: 2, 7: 2, 8: 3, 255: 7, 256: 8, 300: 8})
        self.told("count", "drop", {1: -1, 2: 1, 3: 1, 4: 3, 7: 3, 8: 5, 255: 13, 256: 15, 300: 15})
        self.joins("count", {(0, 0): 0, (0, 1): 0, (1, 1): 0, (7, 8): 0, (300, 1): 0})

    def test_cut(self):
        tops = {1: 0, 2: 1, 3: 2, 4: 2, 5: 3, 6: 3, 7: 3, 8: 4, 9: 4, 12: 4, 13: 5, 20: 5, 21: 6, 33: 6, 34: 7, 54: 7,
                55: 8, 88: 8, 89: 9, 143: 9, 144: 10, 232: 10, 233: 11, 300: 11}
        self.told("cut", "put", {0: 1, 1: 1, 2: 1, 8: 1, 300: 1})
        self.told("cut", "take", {n: top - 1 for n, top in tops.items()})
        self.told("cut", "lower", {n: 4 for n in tops})
        self.told("cut", "drop", {n: top + 3 for n, top in tops.items()})
        self.joins("cut", {(0, 0): 0, (0, 1): 0, (1, 1): 0, (8, 13): 0, (300, 1): 0})

    def test_join_with_m_left_out(self):
        for kind in ("left", "skew", "count", "cut"):
            self.assertEqual(credit(kind, "join", 7), 0)
            self.assertEqual(credit(kind, "join", 0), 0)

    def test_pair_has_none(self):
        for deed in DEEDS:
            for n in (1, 2, 300):
                with self.assertRaises(NoCredit):
                    credit("pair", deed, n)
                with self.assertRaises(NoCredit):
                    credit("pair", deed, n, m=3)

    def test_deeds_on_deep_shapes_are_paid(self):
        for kind in ("left", "skew", "count", "cut"):
            for shape in deepest(kind, range(MOST)):
                for other in deepest(kind, range(MOST, MOST + 50)):
                    both = held(kind, shape) + held(kind, other)
                    self.paid(kind, joined(kind, shape, other), both, credit(kind, "join", MOST, m=50))
                before = held(kind, shape)
                for key in (-1, 70, MOST):
                    self.paid(kind, put(kind, shape, (key, MOST)), before, credit(kind, "put", MOST))
                self.paid(kind, taken(kind, shape)[1:], before, credit(kind, "take", MOST))
                for ticket in range(0, MOST, 13):
                    self.paid(kind, lowered(kind, shape, ticket, -1), before, credit(kind, "lower", MOST))
                    self.paid(kind, lowered(kind, shape, ticket, ticket // 2), before, credit(kind, "lower", MOST))
                    self.paid(kind, dropped(kind, shape, ticket), before, credit(kind, "drop", MOST))

    def paid(self, kind, answer, before, wanted):
        shape, work = answer
        self.assertLessEqual(work + held(kind, shape) - before, wanted, kind)


class FarTest(unittest.TestCase):
    def of_kind(self, kind, many, *shapes):
        """Check that these are shapes of so many items each, all tickets unlike and below 1,000."""
        tickets = []
        for shape in shapes:
            self.assertIs(is_shape(kind, shape), True)
            items = items_of(kind, shape)
            self.assertEqual(len(items), many)
            tickets += [item[1] for item in items]
        self.assertEqual(len(set(tickets)), len(tickets))
        self.assertLess(max(tickets), 1000)

    def test_far_join(self):
        for k in range(1, 8):
            for kind, many in (("left", 2 ** k - 1), ("skew", k)):
                with self.subTest(kind, k=k):
                    told = far_join(kind, k)
                    self.assertIsInstance(told, tuple)
                    one, other = told
                    self.of_kind(kind, many, one, other)
                    shape, work = joined(kind, one, other)
                    self.assertEqual(work, 2 * k - 1)
                    self.of_kind(kind, 2 * many, shape)

    def test_far_put(self):
        for k in range(1, 8):
            shape = far_put(k)
            self.of_kind("count", 2 ** k - 1, shape)
            for key in (-10 ** 12, 0, 10 ** 12):
                self.assertEqual(put("count", shape, (key, 1000))[1], k)

    def test_far_take(self):
        for k in range(1, 8):
            shape = far_take(k)
            self.of_kind("cut", 2 ** k + 1, shape)
            self.assertEqual(taken("cut", shape)[2], 2 ** k - 1)

    def test_far_lower(self):
        for k in range(1, 8):
            shape, ticket = far_lower(k)
            self.of_kind("cut", k + 1, shape)
            self.assertEqual(lowered("cut", shape, ticket, -10 ** 12)[1], k)

    def test_the_same_asked_again(self):
        for k in range(1, 8):
            self.assertEqual(far_join("left", k), far_join("left", k))
            self.assertEqual((far_put(k), far_take(k), far_lower(k)), (far_put(k), far_take(k), far_lower(k)))


if __name__ == "__main__":
    unittest.main()
