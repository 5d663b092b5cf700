"""Points 3 to 11 of DOC.md: after many deeds on trees, each shape is one of its kind and has the right items."""

import random
import unittest

from heapwright.items import KINDS
from heapwright.shapes import is_shape, items_of, least, lone, spot_of
from heapwright.sides import met, side_dropped, side_lowered
from heapwright.ties import (
    count_dropped, count_joined, count_lowered, count_without, cut_dropped, cut_lowered, cut_without, gathered,
    least_place, pair_dropped, pair_lowered, paired)


def joined(kind, one, other):
    if kind in ("left", "skew"):
        return met(kind, one, other)
    if kind == "cut":
        return one + other, 0
    return (paired if kind == "pair" else count_joined)(one, other)


def taken(kind, shape):
    if kind in ("left", "skew"):
        return met(kind, shape[1], shape[2])
    if kind == "pair":
        return gathered(shape[1])
    return (count_without if kind == "count" else cut_without)(shape, least_place(shape))


def lowered(kind, shape, item):
    spot = spot_of(kind, shape, item[1])
    if kind in ("left", "skew"):
        return side_lowered(kind, spot, item)
    if kind == "pair":
        return pair_lowered(spot, item)
    return (count_lowered if kind == "count" else cut_lowered)(shape, spot, item)


def dropped(kind, shape, ticket):
    spot = spot_of(kind, shape, ticket)
    if kind in ("left", "skew"):
        return side_dropped(kind, spot)
    if kind == "pair":
        return pair_dropped(spot)
    return (count_dropped if kind == "count" else cut_dropped)(shape, spot)


class Run:
    """A shape beside the plain items that it should have, by their tickets."""

    def __init__(self, kind, seed):
        self.kind = kind
        self.chance = random.Random(seed)
        self.span = self.chance.choice((1, 9, 999))
        self.shape = ()
        self.plain = {}
        self.tickets = iter(range(10 ** 6))

    def fresh(self):
        return (self.chance.randint(-self.span, self.span), next(self.tickets))

    def some_ticket(self):
        return self.chance.choice(sorted(self.plain))

    def put(self):
        item = self.fresh()
        self.plain[item[1]] = item
        return joined(self.kind, self.shape, lone(self.kind, item))

    def join(self):
        other = ()
        for turn in range(self.chance.randint(0, 9)):
            item = self.fresh()
            self.plain[item[1]] = item
            other, work = joined(self.kind, lone(self.kind, item), other)
        return joined(self.kind, self.shape, other)

    def take(self):
        del self.plain[min(self.plain.values())[1]]
        return taken(self.kind, self.shape)

    def lower(self):
        ticket = self.some_ticket()
        item = (self.plain[ticket][0] - self.chance.choice((0, 1, self.span)), ticket)
        self.plain[ticket] = item
        return lowered(self.kind, self.shape, item)

    def drop(self):
        ticket = self.some_ticket()
        del self.plain[ticket]
        return dropped(self.kind, self.shape, ticket)

    def step(self):
        deeds = (self.put, self.put, self.join, self.take, self.lower, self.lower, self.drop)
        self.shape, work = self.chance.choice(deeds if self.plain else deeds[:3])()
        return work


class RunsTest(unittest.TestCase):
    def test_many_deeds_of_each_kind(self):
        for kind in KINDS:
            for seed in range(12):
                run = Run(kind, seed)
                for turn in range(60):
                    self.assertGreaterEqual(run.step(), 0)
                    with self.subTest(kind, seed=seed, turn=turn):
                        self.assertIs(is_shape(kind, run.shape), True)
                        self.assertEqual(items_of(kind, run.shape), sorted(run.plain.values()))
                        if run.plain:
                            self.assertEqual(least(kind, run.shape), min(run.plain.values()))

    def test_what_is_taken_out_comes_rising(self):
        for kind in KINDS:
            run = Run(kind, "rising")
            for turn in range(150):
                run.shape = run.put()[0]
            told = []
            while run.shape != ():
                told.append(least(kind, run.shape))
                run.shape = run.take()[0]
            self.assertEqual(len(told), 150)
            self.assertEqual(told, sorted(told))


if __name__ == "__main__":
    unittest.main()
