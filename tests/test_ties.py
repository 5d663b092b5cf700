"""Points 9 to 11 of DOC.md: trees of pair, count and cut are tied, gathered, joined, raised and cut, by hand."""

import unittest

from heapwright.shapes import is_shape, spot_of
from heapwright.ties import (
    count_dropped, count_joined, count_lowered, count_without, cut_dropped, cut_lowered, cut_off, cut_without,
    gathered, least_place, pair_dropped, pair_lowered, paired, raised, settled, tied)
from tests.trees import MOST, c, child_chain, count_shape, cut_chain, k


class Worked(unittest.TestCase):
    def comes(self, kind, told, shape, work):
        """Check what is told, a tuple of a shape and its work, and that the shape wanted is one."""
        with self.subTest(kind, shape=shape):
            self.assertEqual(told, (shape, work))
            self.assertIs(is_shape(kind, shape), True)

    def spot(self, kind, shape, ticket):
        """The spot of a ticket, which has to be as it was behind the test."""
        spot = spot_of(kind, shape, ticket)
        before = list(spot[1])
        self.addCleanup(lambda: self.assertEqual(spot[1], before))
        return spot


class TiedTest(unittest.TestCase):
    def ties(self, kind, one, other, wanted):
        self.assertEqual(tied(kind, one, other), wanted)
        self.assertEqual(tied(kind, other, one), wanted)

    def test_the_greater_becomes_a_child_of_the_other_one(self):
        self.ties("pair", c(1), c(2), c(1, c(2)))
        self.ties("count", c(1), c(2), c(1, c(2)))
        self.ties("cut", k(1), k(2), k(1, k(2)))

    def test_the_first_one_of_pair(self):
        self.ties("pair", c(1, c(5)), c(2, c(3), c(4)), c(1, c(2, c(3), c(4)), c(5)))
        self.ties("pair", c(1, c(5), c(6)), c(2), c(1, c(2), c(5), c(6)))

    def test_the_last_one_of_count_and_cut(self):
        self.ties("count", c(1, c(5)), c(2, c(3)), c(1, c(5), c(2, c(3))))
        self.ties("cut", k(1, k(5, marked=True)), k(2, k(3)), k(1, k(5, marked=True), k(2, k(3))))

    def test_keys_alike_go_by_their_tickets(self):
        self.ties("pair", c(1, ticket=3), c(1, ticket=7), c(1, c(1, ticket=7), ticket=3))
        self.ties("count", c(1, ticket=3), c(1, ticket=7), c(1, c(1, ticket=7), ticket=3))
        self.ties("cut", k(1, ticket=3), k(1, ticket=7), k(1, k(1, ticket=7), ticket=3))


class PairTest(Worked):
    def test_joining(self):
        for one, other in ((c(1, c(5)), c(2, c(3))), (c(2, c(3)), c(1, c(5)))):
            self.comes("pair", paired(one, other), c(1, c(2, c(3)), c(5)), 1)
        self.comes("pair", paired((), c(1, c(2))), c(1, c(2)), 0)
        self.comes("pair", paired(c(1, c(2)), ()), c(1, c(2)), 0)
        self.comes("pair", paired((), ()), (), 0)

    def gathers(self, children, wanted, work):
        self.comes("pair", gathered(tuple(children)), wanted, work)

    def test_no_child_and_one(self):
        self.gathers([], (), 0)
        self.gathers([c(3)], c(3), 0)
        self.gathers([c(3, c(5), c(4))], c(3, c(5), c(4)), 0)

    def test_an_even_number_of_children(self):
        self.gathers([c(3), c(2)], c(2, c(3)), 1)
        self.gathers([c(2), c(3)], c(2, c(3)), 1)
        self.gathers([c(1), c(2), c(3), c(4)], c(1, c(3, c(4)), c(2)), 3)
        self.gathers([c(4), c(3), c(2), c(1)], c(1, c(3, c(4)), c(2)), 3)
        self.gathers([c(1), c(2), c(3), c(4), c(5), c(6)], c(1, c(3, c(5, c(6)), c(4)), c(2)), 5)
        self.gathers([c(5), c(6), c(3), c(4), c(1), c(2)], c(1, c(5, c(6)), c(3, c(4)), c(2)), 5)

    def test_an_odd_number_of_children(self):
        self.gathers([c(5), c(4), c(3)], c(3, c(4, c(5))), 2)
        self.gathers([c(3), c(4), c(5)], c(3, c(5), c(4)), 2)
        self.gathers([c(5), c(4), c(3), c(2), c(1)], c(1, c(4, c(5)), c(2, c(3))), 4)
        self.gathers([c(1), c(2), c(3), c(4), c(5)], c(1, c(3, c(5), c(4)), c(2)), 4)

    def test_what_stands_in_the_children_stays(self):
        self.gathers([c(3, c(7), c(8)), c(2, c(9)), c(1, c(6))], c(1, c(2, c(3, c(7), c(8)), c(9)), c(6)), 2)

    def test_keys_alike_go_by_their_tickets(self):
        self.gathers([c(2, ticket=6), c(2, ticket=5), c(2, ticket=4)],
                     c(2, c(2, c(2, ticket=6), ticket=5), ticket=4), 2)

    def lowers(self, tree, ticket, key, wanted, work):
        self.comes("pair", pair_lowered(self.spot("pair", tree, ticket), (key, ticket)), wanted, work)

    def test_a_lowered_item_that_stays(self):
        tree = c(2, c(5, c(9), c(6)), c(4))
        self.lowers(tree, 2, 2, tree, 0)
        self.lowers(tree, 2, -7, c(-7, c(5, c(9), c(6)), c(4), ticket=2), 0)
        self.lowers(tree, 9, 6, c(2, c(5, c(6, ticket=9), c(6)), c(4)), 0)
        self.lowers(tree, 9, 5, c(2, c(5, c(5, ticket=9), c(6)), c(4)), 0)
        self.lowers(tree, 5, 2, c(2, c(2, c(9), c(6), ticket=5), c(4)), 0)

    def test_a_lowered_item_that_moves(self):
        tree = c(2, c(5, c(9), c(6, c(8)), c(7)), c(4))
        self.lowers(tree, 6, 4, c(2, c(4, c(8), ticket=6), c(5, c(9), c(7)), c(4)), 1)
        self.lowers(tree, 6, 1, c(1, c(2, c(5, c(9), c(7)), c(4)), c(8), ticket=6), 1)
        self.lowers(tree, 5, 1, c(1, c(2, c(4)), c(9), c(6, c(8)), c(7), ticket=5), 1)
        self.lowers(tree, 4, 2, c(2, c(5, c(9), c(6, c(8)), c(7)), c(2, ticket=4)), 0)
        self.lowers(c(2, c(3, ticket=1)), 1, 2, c(2, c(2), ticket=1), 1)

    def drops(self, tree, ticket, wanted, work):
        self.comes("pair", pair_dropped(self.spot("pair", tree, ticket)), wanted, work)

    def test_a_dropped_item(self):
        tree = c(2, c(5, c(9), c(6, c(8)), c(7)), c(4))
        self.drops(tree, 5, c(2, c(6, c(7), c(9), c(8)), c(4)), 3)
        self.drops(tree, 6, c(2, c(8), c(5, c(9), c(7)), c(4)), 1)

    def test_a_dropped_item_with_nothing_below(self):
        tree = c(2, c(5, c(9), c(6)), c(4))
        self.drops(tree, 4, c(2, c(5, c(9), c(6))), 0)
        self.drops(tree, 9, c(2, c(5, c(6)), c(4)), 0)

    def test_a_dropped_item_at_the_top(self):
        self.drops(c(2), 2, (), 0)
        self.drops(c(2, c(3)), 2, c(3), 0)
        self.drops(c(2, c(5), c(4), c(3)), 2, c(3, c(4, c(5))), 2)

    def test_three_hundred_items(self):
        last = MOST - 1
        chain = child_chain(range(MOST))
        self.lowers(chain, last, -1, c(-1, child_chain(range(last)), ticket=last), 1)
        self.drops(chain, last, child_chain(range(last)), 0)
        self.drops(chain, 0, child_chain(range(1, MOST)), 0)
        wide = c(0, *[c(key) for key in range(1, MOST)])
        self.assertEqual(pair_dropped(spot_of("pair", wide, 0))[1], MOST - 2)


class CountTest(Worked):
    def joins(self, one, other, wanted, work):
        self.comes("count", count_joined(one, other), wanted, work)
        self.comes("count", count_joined(other, one), wanted, work)

    def test_nothing_on_either_side(self):
        self.joins((), (), (), 0)
        self.joins((), (c(9), c(1, c(2))), (c(9), c(1, c(2))), 0)

    def test_unlike_ranks_are_not_tied(self):
        self.joins((c(1),), (c(2, c(3)),), (c(1), c(2, c(3))), 0)
        self.joins((c(9), c(1, c(4), c(2, c(3)))), (c(5, c(6)),), (c(9), c(5, c(6)), c(1, c(4), c(2, c(3)))), 0)

    def test_two_of_a_rank(self):
        self.joins((c(1),), (c(2),), (c(1, c(2)),), 1)
        self.joins((c(1, c(4)),), (c(2, c(3)),), (c(1, c(4), c(2, c(3))),), 1)

    def test_the_carried_one_stays_where_it_is_alone(self):
        high = c(3, c(4), c(5, c(6)))
        self.joins((c(1), high), (c(2),), (c(1, c(2)), high), 1)

    def test_the_carried_one_is_tied_with_the_one_of_a_shape(self):
        self.joins((c(5), c(3, c(4))), (c(6),), (c(3, c(4), c(5, c(6))),), 2)
        self.joins((c(1), c(3, c(4))), (c(2),), (c(1, c(2), c(3, c(4))),), 2)

    def test_three_of_a_rank(self):
        one, other = (c(1), c(3, c(4))), (c(2), c(5, c(6)))
        self.joins(one, other, (c(1, c(2)), c(3, c(4), c(5, c(6)))), 2)
        # The carried one has the greatest item of the three, and stays too.
        one, other = (c(7), c(3, c(4))), (c(8), c(5, c(6)))
        self.joins(one, other, (c(7, c(8)), c(3, c(4), c(5, c(6)))), 2)

    def test_three_of_a_rank_twice_and_then_one(self):
        one = (c(1), c(3, c(4)), c(10, c(11), c(12, c(13))))
        other = (c(2), c(5, c(6)), c(20, c(21), c(22, c(23))))
        low = c(3, c(4), c(5, c(6)))
        high = c(10, c(11), c(12, c(13)), c(20, c(21), c(22, c(23))))
        self.joins(one, other, (c(1, c(2)), low, high), 3)

    def test_what_is_carried_through_many_ranks(self):
        shape = count_shape(range(10, 25))
        told, work = count_joined(shape, (c(9),))
        self.assertEqual(work, 4)
        self.assertEqual([len(tree[1]) for tree in told], [4])
        self.assertEqual(told[0][0], (9, 9))
        self.assertIs(is_shape("count", told), True)

    def test_keys_alike_go_by_their_tickets(self):
        self.joins((c(1, ticket=7),), (c(1, ticket=3),), (c(1, c(1, ticket=7), ticket=3),), 1)

    def test_the_place_of_the_least(self):
        self.assertEqual(least_place((c(1), c(2, c(3)))), 0)
        self.assertEqual(least_place((c(9), c(2, c(3)))), 1)
        self.assertEqual(least_place((k(9), k(5, ticket=4), k(5, ticket=3), k(8))), 2)

    def test_a_tree_is_taken_out_and_its_children_joined(self):
        high = c(1, c(4), c(2, c(3)))
        self.comes("count", count_without((c(9),), 0), (), 0)
        self.comes("count", count_without((c(9), high), 0), (high,), 0)
        self.comes("count", count_without((high,), 0), (c(4), c(2, c(3))), 0)
        self.comes("count", count_without((c(9), high), 1), (c(2, c(3), c(4, c(9))),), 2)
        self.comes("count", count_without((c(5, c(6)), high), 1), (c(4), c(2, c(3), c(5, c(6)))), 1)

    def lowers(self, shape, ticket, key, wanted, work):
        self.comes("count", count_lowered(shape, self.spot("count", shape, ticket), (key, ticket)), wanted, work)

    def test_a_lowered_item_that_stays(self):
        shape = (c(9), c(1, c(4), c(2, c(6))))
        self.lowers(shape, 9, -3, (c(-3, ticket=9), shape[1]), 0)
        self.lowers(shape, 1, 0, (c(9), c(0, c(4), c(2, c(6)), ticket=1)), 0)
        self.lowers(shape, 6, 6, shape, 0)
        self.lowers(shape, 6, 3, (c(9), c(1, c(4), c(2, c(3, ticket=6)))), 0)
        self.lowers(shape, 6, 2, (c(9), c(1, c(4), c(2, c(2, ticket=6)))), 0)

    def test_a_lowered_item_goes_up_as_long_as_it_is_less(self):
        shape = (c(9), c(2, c(4), c(3, c(6))))
        self.lowers(shape, 6, 2, (c(9), c(2, c(4), c(2, c(3), ticket=6))), 1)
        self.lowers(shape, 6, 1, (c(9), c(1, c(4), c(2, c(3)), ticket=6)), 2)
        self.lowers(shape, 3, 0, (c(9), c(0, c(4), c(2, c(6)), ticket=3)), 1)
        self.lowers(shape, 4, 1, (c(9), c(1, c(2), c(3, c(6)), ticket=4)), 1)
        self.lowers((c(2, c(3, ticket=1)),), 1, 2, (c(2, c(2), ticket=1),), 1)

    def test_an_item_goes_all_the_way_whatever_it_is(self):
        shape = (c(9), c(2, c(4), c(3, c(6))))
        self.assertEqual(raised(spot_of("count", shape, 6), (6, 6), whole=True), (c(6, c(4), c(2, c(3))), 2))
        self.assertEqual(raised(spot_of("count", shape, 6), (6, 6)), (shape[1], 0))
        self.assertEqual(raised(spot_of("count", shape, 9), (9, 9), whole=True), (c(9), 0))

    def drops(self, shape, ticket, wanted, work):
        self.comes("count", count_dropped(shape, self.spot("count", shape, ticket)), wanted, work)

    def test_a_dropped_item(self):
        shape = (c(9), c(2, c(4), c(3, c(6))))
        self.drops(shape, 6, (c(2, c(3), c(4, c(9))),), 4)
        self.drops(shape, 3, (c(2, c(6), c(4, c(9))),), 3)
        self.drops(shape, 4, (c(2, c(9), c(3, c(6))),), 3)
        self.drops(shape[1:], 6, (c(4), c(2, c(3))), 2)

    def test_a_dropped_item_at_the_top(self):
        shape = (c(9), c(2, c(4), c(3, c(6))))
        self.drops(shape, 2, (c(3, c(6), c(4, c(9))),), 2)
        self.drops(shape, 9, shape[1:], 0)
        self.drops((c(1),), 1, (), 0)

    def test_three_hundred_items(self):
        shape = count_shape(range(MOST))
        # 8 stands in eight trees: 7, 6 and so on down to 0, which are the top and last children.
        told, work = count_lowered(shape, spot_of("count", shape, 8), (-1, 8))
        self.assertEqual((told[-1][0], work), ((-1, 8), 8))
        self.assertIs(is_shape("count", told), True)


class CutTest(Worked):
    def settles(self, trees, wanted, work):
        self.comes("cut", settled(tuple(trees)), wanted, work)

    def test_trees_of_unlike_numbers_of_children_are_put_in_order(self):
        self.settles([], (), 0)
        self.settles([k(1)], (k(1),), 0)
        self.settles([k(1, k(2)), k(3)], (k(3), k(1, k(2))), 0)
        high = k(5, k(6), k(7, k(8)))
        self.settles([high, k(9), k(1, k(2))], (k(9), k(1, k(2)), high), 0)

    def test_trees_are_tied_in_order(self):
        self.settles([k(1), k(2)], (k(1, k(2)),), 1)
        self.settles([k(2), k(1)], (k(1, k(2)),), 1)
        self.settles([k(3), k(2), k(1)], (k(1), k(2, k(3))), 1)
        self.settles([k(1), k(2), k(3)], (k(3), k(1, k(2))), 1)
        self.settles([k(4), k(3), k(2), k(1)], (k(1, k(2), k(3, k(4))),), 3)
        self.settles([k(5), k(4, k(6)), k(3), k(2, k(7))], (k(2, k(7)), k(3, k(5), k(4, k(6)))), 2)

    def test_ties_go_on_as_long_as_one_is_kept_with_as_many(self):
        trees = [k(9), k(7, k(8)), k(1, k(2), k(3, k(4))), k(5)]
        self.settles(trees, (k(1, k(2), k(3, k(4)), k(5, k(9), k(7, k(8)))),), 3)

    def test_marks_below_stay(self):
        self.settles([k(1, k(5, marked=True)), k(2, k(3, marked=True))],
                     (k(1, k(5, marked=True), k(2, k(3, marked=True))),), 1)

    def test_keys_alike_go_by_their_tickets(self):
        self.settles([k(1, ticket=7), k(1, ticket=3)], (k(1, k(1, ticket=7), ticket=3),), 1)

    def test_a_tree_is_taken_out_and_its_children_unmarked(self):
        self.comes("cut", cut_without((k(1),), 0), (), 0)
        self.comes("cut", cut_without((k(1, k(2, marked=True)),), 0), (k(2),), 0)
        self.comes("cut", cut_without((k(3), k(1, k(2, marked=True)), k(4)), 1), (k(2), k(3, k(4))), 1)
        low = k(5, k(6, marked=True), marked=True)
        self.comes("cut", cut_without((k(1, low),), 0), (k(5, k(6, marked=True)),), 0)

    def test_the_children_come_behind_the_others_in_order(self):
        # 9 and 8 are tied ahead of the children 3 and 2, of which each is tied with what is kept then.
        shape = (k(9), k(1, k(3), k(2, marked=True)), k(8))
        self.comes("cut", cut_without(shape, 1), (k(2, k(3), k(8, k(9))),), 3)
        shape = (k(9), k(1, k(7), k(6, k(10))), k(8), k(2))
        self.comes("cut", cut_without(shape, 1), (k(6, k(10)), k(2, k(7), k(8, k(9)))), 3)

    def lowers(self, shape, ticket, key, wanted, work):
        self.comes("cut", cut_lowered(shape, self.spot("cut", shape, ticket), (key, ticket)), wanted, work)

    def test_a_lowered_item_that_stays(self):
        shape = (k(9), k(2, k(5, k(6, marked=True))), k(8))
        self.lowers(shape, 9, -4, (k(-4, ticket=9), *shape[1:]), 0)
        self.lowers(shape, 2, 2, shape, 0)
        self.lowers(shape, 6, 5, (k(9), k(2, k(5, k(5, ticket=6, marked=True))), k(8)), 0)
        self.lowers(shape, 5, 2, (k(9), k(2, k(2, k(6, marked=True), ticket=5)), k(8)), 0)

    def test_a_lowered_item_is_cut_and_put_behind_the_others(self):
        shape = (k(9), k(2, k(5), k(6, k(7))), k(8))
        self.lowers(shape, 5, 1, (k(9), k(2, k(6, k(7))), k(8), k(1, ticket=5)), 1)
        self.lowers(shape, 6, 1, (k(9), k(2, k(5)), k(8), k(1, k(7), ticket=6)), 1)
        self.lowers((k(2, k(3, ticket=1)),), 1, 2, (k(2), k(2, ticket=1)), 1)

    def test_the_tree_it_was_cut_from_is_marked_where_it_stands_in_one(self):
        shape = (k(9), k(2, k(5), k(6, k(7))), k(8))
        self.lowers(shape, 7, 3, (k(9), k(2, k(5), k(6, marked=True)), k(8), k(3, ticket=7)), 1)
        deep = (k(1, k(2, k(3, k(4)))),)
        self.lowers(deep, 4, 0, (k(1, k(2, k(3, marked=True))), k(0, ticket=4)), 1)

    def test_a_marked_tree_that_is_cut_is_unmarked(self):
        self.lowers((k(1, k(2, k(3, marked=True), marked=True)),), 2, 0,
                    (k(1), k(0, k(3, marked=True), ticket=2)), 1)

    def test_cuts_go_on_upward_through_marked_trees(self):
        shape = (k(9), k(1, k(2, k(3, k(4, k(5), marked=True), marked=True))), k(8))
        self.lowers(shape, 5, 0, (k(9), k(1, k(2, marked=True)), k(8), k(0, ticket=5), k(4), k(3)), 3)

    def test_cuts_go_on_to_the_top_which_is_never_marked(self):
        shape = (k(9), k(1, k(2, k(3, k(4, k(5), marked=True), marked=True), marked=True)), k(8))
        self.lowers(shape, 5, 0, (k(9), k(1), k(8), k(0, ticket=5), k(4), k(3), k(2)), 4)
        self.lowers(shape, 4, 0, (k(9), k(1), k(8), k(0, k(5), ticket=4), k(3), k(2)), 3)

    def test_what_else_stands_in_the_cut_trees_stays_in_order(self):
        shape = (k(1, k(6), k(2, k(10), k(3, k(4), marked=True), k(5, k(7), marked=True), marked=True)),)
        self.assertIs(is_shape("cut", shape), True)
        self.lowers(shape, 4, 0, (k(1, k(6)), k(0, ticket=4), k(3), k(2, k(10), k(5, k(7), marked=True))), 3)

    def test_a_tree_is_cut_whatever_its_item_is(self):
        shape = (k(1, k(2, k(3))),)
        self.comes("cut", cut_off(shape, self.spot("cut", shape, 3), (3, 3)), (k(1, k(2, marked=True)), k(3)), 1)

    def drops(self, shape, ticket, wanted, work):
        self.comes("cut", cut_dropped(shape, self.spot("cut", shape, ticket)), wanted, work)

    def test_a_dropped_item_at_the_top(self):
        self.drops((k(1),), 1, (), 0)
        self.drops((k(9), k(1, k(2, marked=True)), k(8)), 1, (k(2), k(8, k(9))), 1)
        self.drops((k(9), k(1, k(2, marked=True)), k(8)), 8, (k(9), k(1, k(2, marked=True))), 0)

    def test_a_dropped_item_that_stands_in_a_tree(self):
        # 2's tree is cut, 3 comes behind 1; then these two are tied.
        self.drops((k(1, k(2, k(3, marked=True))),), 2, (k(1, k(3)),), 2)
        self.drops((k(1, k(2)),), 2, (k(1),), 1)

    def test_a_drop_that_cuts_upward(self):
        # Cut are 5, 4 and 3; behind 9, 1's tree and 8 there are 4 and 3 then, and 6, which stood in 5.
        shape = (k(9), k(1, k(2, k(3, k(4, k(5, k(6)), marked=True), marked=True))), k(8))
        # 9 and 8 are tied; this and 1's tree; then 4 and 3 are tied, and 6 is left.
        self.drops(shape, 5, (k(6), k(3, k(4)), k(1, k(2, marked=True), k(8, k(9)))), 3 + 3)

    def test_three_hundred_items(self):
        last = MOST - 1
        plain, marked = cut_chain(range(MOST)), cut_chain(range(MOST), marked=True)
        told, work = cut_lowered(plain, spot_of("cut", plain, last), (-1, last))
        self.assertEqual((len(told), work), (2, 1))
        told, work = cut_lowered(marked, spot_of("cut", marked, last), (-1, last))
        wanted = (k(0), k(-1, ticket=last), *[k(key) for key in range(last - 1, 0, -1)])
        self.assertEqual((told, work), (wanted, last))
        told, work = cut_dropped(marked, spot_of("cut", marked, last))
        self.assertEqual(work, last + last - bin(last).count("1"))
        self.assertIs(is_shape("cut", told), True)
        self.assertEqual([len(tree[2]) for tree in told], [at for at in range(9) if last >> at & 1])


if __name__ == "__main__":
    unittest.main()
