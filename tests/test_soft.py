"""Points 15 to 17 of DOC.md: soft heaps by hand, their slipped items, and rows of drawn deeds."""

import random
import unittest

from heapwright.errors import Empty, Twice
from heapwright.soft import is_soft, may_slip, slipped, soft_items, soft_joined, soft_put, soft_taken
from tests.trees import MOST


def row(*keys):
    """A row of items whose tickets are their keys."""
    return tuple([(key, key) for key in keys])


def t(rank, key, items, one=(), other=()):
    return (rank, key, items, one, other)


def n(key, ticket=None):
    """The tree of one item that is put."""
    return t(0, key, ((key, key if ticket is None else ticket),))


def chain(many, *, turned=False):
    """A shape in which all trees stand one within another, by one sides or, turned, by other sides."""
    tree = ()
    for rank in range(many):
        key = many - 1 - rank
        tree = t(rank, key, row(key), *(((), tree) if turned else (tree, ())))
    return (tree,)


# What comes of 5, 3, 8 and 1, put in this order with a slack of 1.
FOUR = (t(2, 3, row(1, 3), t(1, 5, row(5)), t(1, 8, row(8))),)


class PutTest(unittest.TestCase):
    def told(self, shape, wanted):
        self.assertEqual(shape, wanted)
        self.assertIs(is_soft(shape), True)

    def test_puts_one_by_one(self):
        shape = soft_put((), (5, 5), slack=1)
        self.told(shape, (n(5),))
        shape = soft_put(shape, (3, 3), slack=1)
        self.told(shape, (t(1, 3, row(3), (), n(5)),))
        shape = soft_put(shape, (8, 8), slack=1)
        self.told(shape, (n(8), t(1, 3, row(3), (), n(5))))
        shape = soft_put(shape, (1, 1), slack=1)
        self.told(shape, FOUR)

    def test_the_slack_that_is_left_out_is_four(self):
        shape = (n(8), t(1, 3, row(3), (), n(5)))
        wanted = (t(2, 1, row(1), t(1, 8, row(8)), t(1, 3, row(3), (), n(5))),)
        self.told(soft_put(shape, (1, 1)), wanted)
        self.told(soft_put(shape, (1, 1), slack=4), wanted)
        self.told(soft_put(shape, (1, 1), slack=2), wanted)

    def test_keys_alike_do_not_change_sides(self):
        one, other = (n(5, 1),), (n(5, 2),)
        self.told(soft_joined(one, other), (t(1, 5, ((5, 1),), (), n(5, 2)),))
        self.told(soft_joined(other, one), (t(1, 5, ((5, 2),), (), n(5, 1)),))

    def test_join_with_nothing(self):
        self.told(soft_joined((), ()), ())
        self.told(soft_joined((), FOUR, slack=1), FOUR)
        self.told(soft_joined(FOUR, (), slack=1), FOUR)

    def test_of_three_the_carried_one_stays(self):
        low, high = t(1, 10, row(10)), t(1, 20, row(20))
        wanted = (t(1, 1, row(1), (), n(2)), t(2, 10, row(10), (), high))
        self.told(soft_joined((n(1), low), (n(2), high)), wanted)

    def test_the_carried_one_is_tied_behind_the_one_of_a_shape(self):
        low = t(1, 1, ((1, 20),))
        wanted = (t(2, 1, ((1, 20),), (), t(1, 1, row(1), (), n(2))),)
        self.told(soft_joined((n(1),), (n(2), low)), wanted)
        self.told(soft_joined((n(1), low), (n(2),)), wanted)

    def test_the_carried_one_stays_where_it_is_alone(self):
        far = t(3, 0, row(0))
        self.told(soft_joined((n(1), far), (n(2),)), (t(1, 1, row(1), (), n(2)), far))

    def test_a_tree_is_filled_from_both_sides(self):
        one = t(2, 4, row(1, 4), (), t(1, 6, row(6)))
        other = t(2, 5, row(2, 5))
        wanted = (t(3, 5, row(1, 4, 2, 5), (), t(2, 6, row(6))),)
        self.told(soft_joined((one,), (other,), slack=1), wanted)
        self.told(soft_joined((other,), (one,), slack=1), wanted)
        # At a slack of 2 the want of rank 3 is 2, and the first row is enough.
        self.told(soft_joined((one,), (other,), slack=2), (t(3, 4, row(1, 4), t(2, 6, row(6)), other),))

    def test_twice(self):
        for ticket in (1, 3, 5, 8):
            for slack in (1, 4):
                with self.assertRaises(Twice):
                    soft_put(FOUR, (99, ticket), slack=slack)
                with self.assertRaises(Twice):
                    soft_joined(FOUR, (n(7), t(1, 9, ((9, ticket),))), slack=slack)
                with self.assertRaises(Twice):
                    soft_joined((n(99, ticket),), FOUR, slack=slack)
        with self.assertRaises(Twice):
            soft_joined(FOUR, FOUR)
        soft_put(FOUR, (1, 99))


class TakeTest(unittest.TestCase):
    def test_takes_one_by_one(self):
        told, shape = soft_taken(FOUR, slack=1)
        self.assertEqual((told, shape), ((1, 1), (t(2, 5, row(3, 5), (), t(1, 8, row(8))),)))
        told, shape = soft_taken(shape, slack=1)
        self.assertEqual((told, shape), ((3, 3), (t(2, 8, row(5, 8)),)))
        told, shape = soft_taken(shape, slack=1)
        self.assertEqual((told, shape), ((5, 5), (t(2, 8, row(8)),)))
        self.assertEqual(soft_taken(shape, slack=1), ((8, 8), ()))

    def test_nothing(self):
        with self.assertRaises(Empty):
            soft_taken(())
        with self.assertRaises(Empty):
            soft_taken((), slack=1)

    def test_what_is_taken_may_not_be_the_least(self):
        shape = (n(4), t(2, 5, row(3, 5)))
        self.assertEqual(soft_taken(shape, slack=1), ((4, 4), (t(2, 5, row(3, 5)),)))

    def test_of_several_trees_of_the_least_key_the_first(self):
        shape = (n(7), t(1, 3, ((3, 9),)), t(2, 3, ((3, 1),)))
        self.assertEqual(soft_taken(shape), ((3, 9), (n(7), t(2, 3, ((3, 1),)))))

    def test_the_first_of_a_row_is_taken_whatever_it_is(self):
        self.assertEqual(soft_taken((t(2, 9, row(9, 1, 5)),)), ((9, 9), (t(2, 9, row(1, 5)),)))

    def test_filled_only_where_twice_as_many_are_no_more_than_the_want(self):
        sides = (t(2, 7, row(7)), t(2, 8, row(8)))
        # At a slack of 1 the want of rank 3 is 3.
        shape = (t(3, 3, row(1, 2, 3), *sides),)
        told, shape = soft_taken(shape, slack=1)
        self.assertEqual((told, shape), ((1, 1), (t(3, 3, row(2, 3), *sides),)))
        told, shape = soft_taken(shape, slack=1)
        self.assertEqual((told, shape), ((2, 2), (t(3, 8, row(3, 7, 8)),)))

    def test_filled_where_twice_as_many_are_just_the_want(self):
        # At a slack of 1 the want of rank 2 is 2, at one of 2 it is 1.
        shape = (t(2, 2, row(1, 2), (), t(1, 7, row(7))),)
        self.assertEqual(soft_taken(shape, slack=1)[1], (t(2, 7, row(2, 7)),))
        self.assertEqual(soft_taken(shape, slack=2)[1], (t(2, 2, row(2), (), t(1, 7, row(7))),))
        self.assertEqual(soft_taken(shape)[1], (t(2, 2, row(2), (), t(1, 7, row(7))),))

    def test_an_empty_row_is_filled_at_every_slack(self):
        shape = (t(1, 1, row(1), n(9), n(7)), t(2, 5, row(5)))
        for slack in range(1, 9):
            told = soft_taken(shape, slack=slack)
            self.assertEqual(told, ((1, 1), (t(1, 7, row(7), (), n(9)), t(2, 5, row(5)))))

    def test_the_sides_of_a_side_are_filled_too(self):
        inner = t(1, 3, row(3), n(6), n(4))
        shape = (t(2, 2, row(2), inner, t(1, 5, row(5))),)
        wanted = (t(2, 3, row(3), t(1, 4, row(4), (), n(6)), t(1, 5, row(5))),)
        self.assertEqual(soft_taken(shape), ((2, 2), wanted))


class ToldTest(unittest.TestCase):
    def test_items_with_the_keys_of_their_trees(self):
        self.assertEqual(soft_items(()), [])
        self.assertEqual(soft_items(FOUR), [((1, 1), 3), ((3, 3), 3), ((5, 5), 5), ((8, 8), 8)])
        shape = (n(2, 9), t(1, 7, ((7, 3), (2, 4), (2, 1))))
        self.assertEqual(soft_items(shape), [((2, 1), 7), ((2, 4), 7), ((2, 9), 2), ((7, 3), 7)])

    def test_slipped(self):
        self.assertEqual(slipped(()), [])
        self.assertEqual(slipped((n(5),)), [])
        self.assertEqual(slipped(FOUR), [(1, 1)])
        self.assertEqual(slipped((n(2, 9), t(1, 7, ((7, 3), (2, 4), (2, 1))))), [(2, 1), (2, 4)])
        # A key that no item of the row has: all of them have slipped.
        self.assertEqual(slipped((t(5, 9, row(8, 7)),)), [(7, 7), (8, 8)])

    def test_lists_are_new_ones(self):
        for told in (soft_items, slipped):
            first = told(FOUR)
            wanted = list(first)
            first.append(None)
            self.assertEqual(told(FOUR), wanted)

    def test_may_slip(self):
        tables = {
            1: {0: 0, 1: 0, 3: 0, 4: 6, 7: 6, 8: 21, 16: 57},
            2: {7: 0, 8: 6, 300: 741},
            3: {15: 0, 16: 6, 32: 21},
            4: {0: 0, 31: 0, 32: 6, 63: 6, 64: 21, 300: 144},
            5: {63: 0, 64: 6, 128: 21},
            6: {127: 0, 128: 6, 256: 21},
            7: {255: 0, 256: 6, 300: 6},
            8: {300: 0, 511: 0, 512: 6},
        }
        for slack, table in tables.items():
            for many, wanted in table.items():
                with self.subTest(slack=slack, many=many):
                    self.assertEqual(may_slip(many, slack=slack), wanted)
        for many, wanted in tables[4].items():
            self.assertEqual(may_slip(many), wanted)

    def test_what_is_handed_in_stays(self):
        before = repr(FOUR)
        for deed in (lambda: soft_put(FOUR, (2, 2), slack=1), lambda: soft_joined(FOUR, (n(2),), slack=1),
                     lambda: soft_taken(FOUR, slack=1)):
            first = deed()
            self.assertEqual(deed(), first)
            self.assertEqual(repr(FOUR), before)


class ThreeHundredTest(unittest.TestCase):
    def test_take_from_the_deepest_shape(self):
        for turned in (False, True):
            shape = chain(MOST, turned=turned)
            self.assertIs(is_soft(shape), True)
            # So high a rank wants all that is there.
            wanted = (t(MOST - 1, MOST - 1, row(*range(1, MOST))),)
            self.assertEqual(soft_taken(shape), ((0, 0), wanted))
            self.assertEqual(slipped(wanted), [(key, key) for key in range(1, MOST - 1)])

    def test_put_into_and_join_with_the_deepest_shape(self):
        shape = chain(MOST)
        self.assertEqual(soft_put(shape, (-1, MOST)), (n(-1, MOST),) + shape)
        self.assertEqual(soft_joined((), shape), shape)
        other = chain(MOST, turned=True)
        with self.assertRaises(Twice):
            soft_joined(shape, other)
        far = tuple([(rank, 0, ((0, 400 + rank),), (), ()) for rank in range(MOST)])
        told = soft_joined(shape, far)
        self.assertIs(is_soft(told), True)
        self.assertEqual(len(soft_items(told)), 2 * MOST)

    def test_three_hundred_in_a_tuple_of_ranks(self):
        shape = tuple([(rank, 0, ((0, rank),), (), ()) for rank in range(MOST)])
        told = soft_put(shape, (0, MOST))
        self.assertIs(is_soft(told), True)
        self.assertEqual(len(told), 1)
        self.assertEqual(told[0][0], MOST)
        self.assertEqual([item for item, key in soft_items(told)], [(0, ticket) for ticket in range(MOST + 1)])

    def test_a_rank_of_forty_figures(self):
        rank = 10 ** 40 - 2
        shape = (n(9), t(rank, 1, row(1), t(rank - 1, 2, row(2))))
        self.assertEqual(soft_taken(shape), ((1, 1), (n(9), t(rank, 2, row(2)))))
        self.assertEqual(soft_put(shape, (10, 10))[0], t(1, 9, row(9), (), n(10)))


class Run:
    """A soft shape beside the plain items that it should have, and how many were put in so far."""

    def __init__(self, slack, seed):
        self.slack = slack
        self.chance = random.Random(f"{slack} {seed}")
        self.span = self.chance.choice((0, 3, 999))
        self.shape = ()
        self.plain = []
        self.puts = 0

    def put_into(self, shape):
        item = (self.chance.randint(-self.span, self.span), self.puts)
        self.plain.append(item)
        self.puts += 1
        return soft_put(shape, item, slack=self.slack)

    def taken_from(self, shape):
        item, shape = soft_taken(shape, slack=self.slack)
        self.plain.remove(item)
        return shape

    def joined_with(self, shape):
        other = ()
        for turn in range(self.chance.randint(0, 20)):
            other = self.put_into(other)
        if other != () and self.chance.random() < 0.5:
            other = self.taken_from(other)
        return soft_joined(*self.chance.choice(((shape, other), (other, shape))), slack=self.slack)

    def step(self):
        deeds = (self.put_into,) * 5 + (self.joined_with,) + (self.taken_from,) * 4
        self.shape = self.chance.choice(deeds if self.plain else deeds[:6])(self.shape)


class RunsTest(unittest.TestCase):
    def test_nothing_is_lost_and_not_too_many_slip(self):
        for slack in range(1, 9):
            for seed in range(4):
                run = Run(slack, seed)
                for turn in range(120):
                    run.step()
                    self.assertIs(is_soft(run.shape), True)
                    self.assertEqual([item for item, key in soft_items(run.shape)], sorted(run.plain))
                    self.assertLessEqual(len(slipped(run.shape)), may_slip(run.puts, slack=slack))

    def test_some_do_slip(self):
        shape = ()
        for ticket in range(200):
            shape = soft_put(shape, (-ticket, ticket), slack=1)
        self.assertGreater(len(slipped(shape)), 0)
        self.assertLessEqual(len(slipped(shape)), may_slip(200, slack=1))

    def test_few_items_do_not_slip_and_come_rising(self):
        shape = ()
        for ticket in range(31):
            shape = soft_put(shape, (ticket * 7 % 31, ticket))
        told = []
        while shape != ():
            self.assertEqual(slipped(shape), [])
            item, shape = soft_taken(shape)
            told.append(item)
        self.assertEqual([key for key, ticket in told], list(range(31)))


if __name__ == "__main__":
    unittest.main()
