"""Points 7 and 8 of DOC.md: trees of left and skew meet, and trees are taken out of others, by hand."""

import unittest

from heapwright.shapes import is_shape, items_of, spot_of
from heapwright.sides import met, put_in, side_dropped, side_lowered, turned
from tests.trees import MOST, one_chain, other_chain, s

# Both sides of rank 2.
FULL = s(1, s(2, s(4), s(5)), s(3, s(6), s(7)))


class Worked(unittest.TestCase):
    def meets(self, kind, one, other, tree, work):
        """Check what comes of it where two trees meet, in both orders."""
        for first, second in ((one, other), (other, one)):
            with self.subTest(kind, first=first, second=second):
                self.assertEqual(met(kind, first, second), (tree, work))
        self.assertIs(is_shape(kind, tree), True)

    def lowers(self, kind, tree, ticket, key, wanted, work):
        spot = spot_of(kind, tree, ticket)
        before = list(spot[1])
        with self.subTest(kind, ticket=ticket, key=key):
            self.assertEqual(side_lowered(kind, spot, (key, ticket)), (wanted, work))
            self.assertIs(is_shape(kind, wanted), True)
            self.assertEqual(spot[1], before)

    def drops(self, kind, tree, ticket, wanted, work):
        spot = spot_of(kind, tree, ticket)
        before = list(spot[1])
        with self.subTest(kind, ticket=ticket):
            self.assertEqual(side_dropped(kind, spot), (wanted, work))
            self.assertIs(is_shape(kind, wanted), True)
            self.assertEqual(spot[1], before)


class MeetingTest(Worked):
    def test_nothing_on_either_side(self):
        for kind in ("left", "skew"):
            self.meets(kind, (), (), (), 0)
            self.meets(kind, (), s(1), s(1), 0)
            self.meets(kind, (), FULL, FULL, 0)
        self.meets("skew", (), s(1, (), s(2)), s(1, (), s(2)), 0)

    def test_left_changes_sides_where_the_one_is_of_lesser_rank(self):
        self.meets("left", s(1), s(2), s(1, s(2)), 1)
        self.meets("left", s(1), s(2, s(4), s(3)), s(1, s(2, s(4), s(3))), 1)
        self.meets("left", s(1, s(9)), s(2, s(4), s(3)), s(1, s(2, s(4), s(3)), s(9)), 1)

    def test_left_leaves_sides_where_the_one_is_of_no_lesser_rank(self):
        self.meets("left", s(1, s(3)), s(2), s(1, s(3), s(2)), 1)
        self.meets("left", s(1, s(2)), s(3), s(1, s(2), s(3)), 1)
        self.meets("left", s(1, s(4, s(6), s(5))), s(2, s(3)), s(1, s(4, s(6), s(5)), s(2, s(3))), 1)

    def test_left_goes_on_down_the_other_sides(self):
        self.meets("left", s(1, s(3), s(2)), s(4), s(1, s(3), s(2, s(4))), 2)
        self.meets("left", s(1, s(3), s(2)), s(4, s(6), s(5)), s(1, s(3), s(2, s(4, s(6), s(5)))), 2)

    def test_left_changes_sides_above_where_it_did_not_below(self):
        self.meets("left", s(1, s(9), s(5, s(7))), s(6), s(1, s(5, s(7), s(6)), s(9)), 2)

    def test_left_takes_turns_of_the_two_trees(self):
        one, other = s(1, one_chain([11, 21]), s(3, s(13))), s(2, s(12), s(4, s(14)))
        # 3 meets 4's tree at last: 4 is below 3, and 13 and 4 are of one rank.
        low = s(3, s(13), s(4, s(14)))
        self.meets("left", one, other, s(1, s(2, low, s(12)), one_chain([11, 21])), 3)

    def test_left_of_full_trees(self):
        one, other = s(1, s(3), s(5)), s(2, s(4), s(6))
        self.meets("left", one, other, s(1, s(2, s(4), s(5, s(6))), s(3)), 3)

    def test_skew_changes_sides_each_time(self):
        self.meets("skew", s(1), s(2), s(1, s(2)), 1)
        self.meets("skew", s(1, s(3)), s(2), s(1, s(2), s(3)), 1)
        self.meets("skew", s(1, s(4, s(6), s(5))), s(2), s(1, s(2), s(4, s(6), s(5))), 1)
        self.meets("skew", s(1, s(3), s(2)), s(4), s(1, s(2, s(4)), s(3)), 2)
        self.meets("skew", s(1, s(3), s(2)), s(4, s(6), s(5)), s(1, s(2, s(4, s(6), s(5))), s(3)), 2)
        self.meets("skew", s(1, (), s(3)), s(2), s(1, s(2, s(3))), 2)
        self.meets("skew", s(1, (), s(2)), s(3), s(1, s(2, s(3))), 2)

    def test_skew_takes_turns_of_the_two_trees(self):
        self.meets("skew", s(1, (), s(4)), s(2, (), s(3)), s(1, s(2, s(3, s(4)))), 3)
        self.meets("skew", s(1, s(11), s(3, s(13))), s(2, s(12), s(4, s(14))),
                   s(1, s(2, s(3, s(4, s(14)), s(13)), s(12)), s(11)), 3)

    def test_keys_alike_go_by_their_tickets(self):
        for kind in ("left", "skew"):
            self.meets(kind, s(1, ticket=3), s(1, ticket=7), s(1, s(1, ticket=7), ticket=3), 1)
            self.meets(kind, s(-1, ticket=7), s(-1, ticket=3), s(-1, s(-1, ticket=7), ticket=3), 1)
        self.meets("left", s(1, s(9), ticket=3), s(1, s(8), ticket=2), s(1, s(8), s(1, s(9), ticket=3), ticket=2), 1)
        self.meets("skew", s(1, s(9), ticket=3), s(1, s(8), ticket=2), s(1, s(1, s(9), ticket=3), s(8), ticket=2), 1)

    def test_sides_change_only_where_the_rank_is_less(self):
        self.assertEqual(turned(s(1, (), s(2))), s(1, s(2)))
        self.assertEqual(turned(s(1, s(2))), s(1, s(2)))
        self.assertEqual(turned(s(1, s(3), s(2))), s(1, s(3), s(2)))
        self.assertEqual(turned(s(1, s(2, s(3, s(4))), s(5, s(7), s(6)))), s(1, s(5, s(7), s(6)), s(2, s(3, s(4)))))
        self.assertEqual(turned(s(1)), s(1))

    def test_three_hundred_works(self):
        evens, odds = list(range(0, MOST, 2)), list(range(1, MOST, 2))
        self.meets("skew", other_chain(evens), other_chain(odds), one_chain(range(MOST)), MOST - 1)
        self.meets("left", one_chain(evens), one_chain(odds), s(0, one_chain(evens[1:]), one_chain(odds)), 1)
        self.meets("skew", one_chain(evens), one_chain(odds), s(0, one_chain(odds), one_chain(evens[1:])), 1)


class TakingOutTest(Worked):
    def test_nothing_in_the_place_of_a_tree(self):
        above = spot_of("left", FULL, 5)[1]
        self.assertEqual(put_in("left", above, ()), s(1, s(3, s(6), s(7)), s(2, s(4))))
        self.assertEqual(put_in("skew", above, ()), s(1, s(2, s(4)), s(3, s(6), s(7))))
        above = spot_of("left", FULL, 4)[1]
        self.assertEqual(put_in("left", above, ()), s(1, s(3, s(6), s(7)), s(2, s(5))))
        self.assertEqual(put_in("skew", above, ()), s(1, s(2, (), s(5)), s(3, s(6), s(7))))
        above = spot_of("left", FULL, 7)[1]
        for kind in ("left", "skew"):
            self.assertEqual(put_in(kind, above, ()), s(1, s(2, s(4), s(5)), s(3, s(6))))
            self.assertEqual(put_in(kind, [], ()), ())

    def test_a_lowered_item_that_stays(self):
        for kind in ("left", "skew"):
            self.lowers(kind, FULL, 1, 1, FULL, 0)
            self.lowers(kind, FULL, 1, -9, s(-9, FULL[1], FULL[2], ticket=1), 0)
            self.lowers(kind, FULL, 5, 5, FULL, 0)
            self.lowers(kind, FULL, 5, 3, s(1, s(2, s(4), s(3, ticket=5)), FULL[2]), 0)
            self.lowers(kind, FULL, 5, 2, s(1, s(2, s(4), s(2, ticket=5)), FULL[2]), 0)
            self.lowers(kind, FULL, 3, 1, s(1, FULL[1], s(1, s(6), s(7), ticket=3)), 0)

    def test_nothing_changes_sides_where_a_lowered_item_stays(self):
        self.lowers("skew", s(1, (), s(3, (), s(5))), 5, 4, s(1, (), s(3, (), s(4, ticket=5))), 0)
        self.lowers("skew", s(1, (), s(3, (), s(5))), 3, 1, s(1, (), s(1, (), s(5), ticket=3)), 0)

    def test_keys_alike_go_by_their_tickets(self):
        for kind in ("left", "skew"):
            self.lowers(kind, s(2, s(3, ticket=8), ticket=5), 8, 2, s(2, s(2, ticket=8), ticket=5), 0)
            self.lowers(kind, s(2, s(3, ticket=4), ticket=5), 4, 2, s(2, s(2, ticket=5), ticket=4), 1)

    def test_a_lowered_item_that_moves(self):
        rest = s(1, s(3, s(6), s(7)), s(2, s(4)))
        self.lowers("left", FULL, 5, 0, s(0, rest, ticket=5), 1)
        self.lowers("skew", FULL, 5, 0, s(0, s(1, s(2, s(4)), s(3, s(6), s(7))), ticket=5), 1)
        # Not the least of all: it meets what is left on the way down the other sides.
        tree = s(1, s(2, s(8, s(9))), s(5, s(7)))
        self.lowers("left", tree, 9, 6, s(1, s(5, s(7), s(6, ticket=9)), s(2, s(8))), 2)
        self.lowers("skew", tree, 9, 6, s(1, s(5, s(6, ticket=9), s(7)), s(2, s(8))), 2)

    def test_what_stands_in_it_moves_along(self):
        self.lowers("left", FULL, 2, 0, s(0, s(1, s(3, s(6), s(7)), s(5)), s(4), ticket=2), 2)
        # Of skew 5 meets 3's tree, which is still the other side of 1.
        self.lowers("skew", FULL, 2, 0, s(0, s(1, s(3, s(5, s(7)), s(6))), s(4), ticket=2), 4)

    def test_sides_change_all_the_way_up(self):
        low = s(4, s(8), s(9))
        tree = s(1, s(2, low, s(5, s(10), s(11))), s(3, s(6, s(12), s(13)), s(7)))
        self.assertIs(is_shape("left", tree), True)
        self.lowers("left", tree, 9, 0, s(0, s(1, s(2, s(5, s(10), s(11)), s(4, s(8))), tree[2]), ticket=9), 1)
        self.lowers("left", tree, 4, 0, s(0, s(1, s(3, s(6, s(12), s(13)), s(7)), s(2, s(5, s(10), s(11)), s(9))),
                                          s(8), ticket=4), 3)

    def test_a_dropped_item(self):
        self.drops("left", FULL, 2, s(1, s(3, s(6), s(7)), s(4, s(5))), 1)
        self.drops("skew", FULL, 2, s(1, s(4, s(5)), s(3, s(6), s(7))), 1)
        self.drops("left", FULL, 3, s(1, s(2, s(4), s(5)), s(6, s(7))), 1)
        self.drops("skew", FULL, 3, s(1, s(2, s(4), s(5)), s(6, s(7))), 1)

    def test_a_dropped_item_with_nothing_below(self):
        self.drops("left", FULL, 7, s(1, s(2, s(4), s(5)), s(3, s(6))), 0)
        self.drops("left", FULL, 6, s(1, s(2, s(4), s(5)), s(3, s(7))), 0)
        self.drops("skew", FULL, 6, s(1, s(2, s(4), s(5)), s(3, (), s(7))), 0)
        self.drops("left", FULL, 4, s(1, s(3, s(6), s(7)), s(2, s(5))), 0)
        self.drops("skew", FULL, 4, s(1, s(2, (), s(5)), s(3, s(6), s(7))), 0)

    def test_a_dropped_item_at_the_top(self):
        self.drops("left", FULL, 1, s(2, s(3, s(6), s(5, s(7))), s(4)), 3)
        self.drops("skew", FULL, 1, s(2, s(3, s(5, s(7)), s(6)), s(4)), 3)
        for kind in ("left", "skew"):
            self.drops(kind, s(1), 1, (), 0)
            self.drops(kind, s(1, s(2)), 1, s(2), 0)
            self.drops(kind, s(1, s(2)), 2, s(1), 0)
        self.drops("skew", s(1, (), s(2)), 1, s(2), 0)

    def test_the_bottom_of_three_hundred(self):
        last = MOST - 1
        for kind in ("left", "skew"):
            self.lowers(kind, one_chain(range(MOST)), last, -1, s(-1, one_chain(range(last)), ticket=last), 1)
            self.drops(kind, one_chain(range(MOST)), last, one_chain(range(last)), 0)
            self.drops(kind, one_chain(range(MOST)), 0, one_chain(range(1, MOST)), 0)
        self.lowers("skew", other_chain(range(MOST)), last, -1, s(-1, other_chain(range(last)), ticket=last), 1)
        self.drops("skew", other_chain(range(MOST)), last, other_chain(range(last)), 0)

    def test_items_stay_all_there(self):
        for kind in ("left", "skew"):
            for ticket in range(1, 8):
                tree, work = side_lowered(kind, spot_of(kind, FULL, ticket), (0, ticket))
                self.assertEqual(items_of(kind, tree), [(0, ticket)] + [(at, at) for at in range(1, 8) if at != ticket])
                tree, work = side_dropped(kind, spot_of(kind, FULL, ticket))
                self.assertEqual(items_of(kind, tree), [(at, at) for at in range(1, 8) if at != ticket])


if __name__ == "__main__":
    unittest.main()
