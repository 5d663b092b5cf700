"""Points 3, 6 and 13 of DOC.md: rows of drawn deeds of each kind beside a plain list, and their credits."""

import random
import unittest

from heapwright.deeds import dropped, joined, lowered, put, taken
from heapwright.items import KINDS
from heapwright.paid import credit, held
from heapwright.shapes import is_shape, items_of, least

PAID = [kind for kind in KINDS if kind != "pair"]


class Run:
    """A shape beside the plain items that it should have, by their tickets, and all work and credits so far."""

    def __init__(self, kind, seed):
        self.kind = kind
        self.chance = random.Random(seed)
        self.span = self.chance.choice((1, 9, 999))
        self.shape = ()
        self.plain = {}
        self.tickets = iter(range(10 ** 6))
        self.work = self.credits = 0

    def fresh(self):
        item = (self.chance.randint(-self.span, self.span), next(self.tickets))
        self.plain[item[1]] = item
        return item

    def some_ticket(self):
        return self.chance.choice(sorted(self.plain))

    def worked(self, deed, answer, other=0, *, m=0):
        """Take a deed's answer in; other is what the second shape of a join held."""
        shape, work = answer
        self.work += work
        if self.kind != "pair":
            paid = credit(self.kind, deed, self.size, m=m)
            more = held(self.kind, shape) - held(self.kind, self.shape) - other
            assert work + more <= paid, (self.kind, deed, self.shape, work, more, paid)
            self.credits += paid
        self.shape = shape

    def put(self):
        self.worked("put", put(self.kind, self.shape, self.fresh()))

    def join(self):
        """Join with a shape that was put together, and lessened, by deeds which count as well."""
        mine, size = self.shape, self.size
        self.shape = ()
        for self.size in range(self.chance.randint(0, 9)):
            self.put()
        m = len(items_of(self.kind, self.shape))
        if m > 3:
            self.size = m
            self.take()
            m -= 1
        other, self.shape, self.size = self.shape, mine, size
        self.worked("join", joined(self.kind, self.shape, other), held(self.kind, other), m=m)

    def take(self):
        item, *answer = taken(self.kind, self.shape)
        assert item == least(self.kind, self.shape)
        del self.plain[item[1]]
        self.worked("take", answer)

    def lower(self):
        ticket = self.some_ticket()
        key = self.plain[ticket][0] - self.chance.choice((0, 1, self.span))
        self.plain[ticket] = (key, ticket)
        self.worked("lower", lowered(self.kind, self.shape, ticket, key))

    def drop(self):
        ticket = self.some_ticket()
        del self.plain[ticket]
        self.worked("drop", dropped(self.kind, self.shape, ticket))

    def step(self):
        self.size = len(self.plain)
        deeds = (self.put, self.put, self.join, self.take, self.lower, self.lower, self.drop)
        self.chance.choice(deeds if self.plain else deeds[:3])()


class RunsTest(unittest.TestCase):
    def test_many_deeds_of_each_kind(self):
        for kind in KINDS:
            for seed in range(12):
                run = Run(kind, seed)
                for turn in range(60):
                    run.step()
                    with self.subTest(kind, seed=seed, turn=turn):
                        self.assertIs(is_shape(kind, run.shape), True)
                        self.assertEqual(items_of(kind, run.shape), sorted(run.plain.values()))
                        if run.plain:
                            self.assertEqual(least(kind, run.shape), min(run.plain.values()))
                if kind in PAID:
                    self.assertLessEqual(run.work + held(kind, run.shape), run.credits, kind)

    def test_what_is_taken_out_comes_rising(self):
        for kind in KINDS:
            run = Run(kind, "rising")
            for run.size in range(150):
                run.put()
            told = []
            while run.shape != ():
                told.append(least(kind, run.shape))
                run.size = len(run.plain)
                run.take()
            self.assertEqual(len(told), 150)
            self.assertEqual(told, sorted(told))

    def test_many_are_put_in_and_taken_or_lowered_or_dropped_again(self):
        for kind in PAID:
            for seed in range(3):
                run = Run(kind, seed)
                for run.size in range(120):
                    run.put()
                for turn in range(120):
                    run.size = len(run.plain)
                    run.chance.choice((run.take, run.lower, run.lower, run.drop))()
                    self.assertIs(is_shape(kind, run.shape), True)
                self.assertEqual(items_of(kind, run.shape), sorted(run.plain.values()))
                self.assertLessEqual(run.work + held(kind, run.shape), run.credits, kind)


if __name__ == "__main__":
    unittest.main()
