"""Points 3, 21 and 22 of DOC.md: some hundred drawn deeds on a yard beside plain lists, and its ledger's sums."""

import random
import unittest

from heapwright.deeds import dropped, joined, lowered, put, taken
from heapwright.errors import Higher, TooMany, Unlike
from heapwright.items import KINDS
from heapwright.paid import credit, held
from heapwright.shapes import is_shape
from heapwright.yards import Yard


class Run:
    """A yard beside the kinds and plain items that its heaps should have, and the rows that it should have written."""

    def __init__(self, seed):
        self.chance = random.Random(seed)
        self.yard = Yard()
        self.kinds = {}
        self.plain = {}
        self.rows = []
        self.tickets = 0
        self.sunk = 0

    def some_heap(self):
        return self.chance.choice(sorted(self.plain))

    def some_item(self):
        name = self.chance.choice([name for name in sorted(self.plain) if self.plain[name]])
        return name, self.chance.choice(self.plain[name])

    def wrote(self, word, name, before, answer, m=0):
        """Note the row that a deed should have written, by what the deed on the shape alone tells."""
        kind = self.kinds[name]
        shape, work = answer
        assert self.yard.shape(name) == shape
        more = held(kind, shape) - sum(held(kind, one) for one in before)
        paid = None if kind == "pair" else credit(kind, word, len(self.plain[name]), m=m)
        self.rows.append((word, work, more, paid))

    def make(self):
        name = "".join(self.chance.choice("abc") for turn in range(2))
        if name not in self.plain and len(self.plain) < 12:
            self.kinds[name] = self.chance.choice(KINDS)
            self.yard.make(name, self.kinds[name])
            self.plain[name] = []

    def put(self):
        name = self.some_heap()
        item = (self.chance.randint(-20, 20), self.tickets)
        before = self.yard.shape(name)
        assert self.yard.put(name, item[0]) == self.tickets
        self.tickets += 1
        self.wrote("put", name, [before], put(self.kinds[name], before, item))
        self.plain[name].append(item)

    def join(self):
        name, other = self.some_heap(), self.some_heap()
        if self.kinds[name] != self.kinds[other]:
            try:
                self.yard.join(name, other)
            except Unlike:
                return
            raise AssertionError("heaps of unlike kinds were joined")
        if name != other:
            before = [self.yard.shape(name), self.yard.shape(other)]
            self.yard.join(name, other)
            self.wrote("join", name, before, joined(self.kinds[name], *before), len(self.plain[other]))
            self.plain[name] += self.plain.pop(other)

    def take(self):
        name = self.some_item()[0]
        before = self.yard.shape(name)
        item = self.yard.take(name)
        assert item == min(self.plain[name])
        self.wrote("take", name, [before], taken(self.kinds[name], before)[1:])
        self.plain[name].remove(item)

    def lower(self):
        name, (key, ticket) = self.some_item()
        before = self.yard.shape(name)
        down = key - self.chance.choice((-1, 0, 1, 30))
        try:
            self.yard.lower(ticket, down)
        except Higher:
            assert down > key
            return
        self.wrote("lower", name, [before], lowered(self.kinds[name], before, ticket, down))
        self.plain[name].remove((key, ticket))
        self.plain[name].append((down, ticket))

    def drop(self):
        name, item = self.some_item()
        before = self.yard.shape(name)
        self.yard.drop(item[1])
        self.wrote("drop", name, [before], dropped(self.kinds[name], before, item[1]))
        self.plain[name].remove(item)

    def sink(self):
        if self.chance.random() < 0.2:
            name = self.some_heap()
            self.sunk += held(self.kinds[name], self.yard.shape(name))
            self.yard.sink(name)
            del self.plain[name]

    def step(self):
        deeds = [self.make]
        if self.plain:
            deeds += [self.put] * 7 + [self.join, self.sink]
        if any(self.plain.values()):
            deeds += [self.take, self.lower, self.lower, self.drop]
        self.chance.choice(deeds)()


class YardRunsTest(unittest.TestCase):
    def check(self, run):
        yard = run.yard
        self.assertEqual(yard.names(), sorted(run.plain))
        self.assertEqual(len(yard), sum(len(items) for items in run.plain.values()))
        self.assertEqual(yard.ledger(), run.rows)
        for name, items in run.plain.items():
            self.assertEqual(yard.kind(name), run.kinds[name])
            self.assertIs(is_shape(run.kinds[name], yard.shape(name)), True)
            self.assertEqual(yard.items(name), sorted(items))
            if items:
                self.assertEqual(yard.least(name), min(items))
            for item in items:
                self.assertEqual(yard.home(item[1]), name)

    def test_drawn_deeds(self):
        for seed in range(4):
            run = Run(seed)
            for turn in range(300):
                run.step()
                self.check(run)
            self.paid(run)
            self.assertEqual({row[0] for row in run.rows}, {"put", "join", "take", "lower", "drop"})

    def paid(self, run):
        """Check that each row is paid by its credit, and so is what the heaps hold, and those held that were sunk."""
        rows = [row for row in run.yard.ledger() if row[3] is not None]
        for word, work, more, paid in rows:
            self.assertLessEqual(work + more, paid)
        holding = sum(held(run.kinds[name], run.yard.shape(name)) for name in run.yard.names())
        self.assertEqual(sum(row[2] for row in rows), holding + run.sunk)
        self.assertLessEqual(sum(row[1] for row in rows) + holding, sum(row[3] for row in rows))

    def test_many_in_few_heaps(self):
        for kind in KINDS:
            run = Run(kind)
            for name in ("a", "b"):
                run.yard.make(name, kind)
                run.kinds[name] = kind
                run.plain[name] = []
            for turn in range(200):
                run.put()
            for turn in range(100):
                run.chance.choice((run.take, run.lower, run.drop, run.put))()
            self.check(run)
            self.paid(run)

    def test_too_many_together(self):
        run = Run(0)
        for name in ("a", "b"):
            run.yard.make(name, "count")
            run.kinds[name] = "count"
            run.plain[name] = []
        while len(run.yard) < 301:
            run.put()
        with self.assertRaises(TooMany):
            run.yard.join("a", "b")
        self.check(run)


if __name__ == "__main__":
    unittest.main()
