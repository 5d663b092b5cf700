"""Point 20 of DOC.md: cheapest woods and shortest codes, by hand and by drawn webs and counts."""

import itertools
import random
import unittest

from heapwright.codes import codes
from heapwright.deeds import put, taken
from heapwright.errors import NoKind
from heapwright.items import KINDS
from heapwright.webs import cheapest, is_web

WEB = (6, ((0, 1, 3), (0, 2, 1), (1, 0, 2), (1, 2, 2), (3, 4, 7), (4, 3, 7)))
NO_KINDS = ("", "no", "Left", "LEFT", "Pair", "cut ", " cut", "leftskew", "tree", "c" * 400, "l")


class CheapestTest(unittest.TestCase):
    def told(self, web, rows, length):
        self.assertIs(is_web(web), True)
        for kind in KINDS:
            answer = cheapest(web, kind=kind)
            self.assertIsInstance(answer, tuple)
            self.assertEqual(answer[:2], (rows, length), kind)

    def test_by_hand(self):
        self.told(WEB, [(0, 2, 1), (1, 0, 2), (3, 4, 7)], 10)

    def test_lengths_alike_go_by_their_places(self):
        self.told((3, ((0, 1, 4), (0, 2, 4), (1, 2, 4))), [(0, 1, 4), (0, 2, 4)], 8)
        self.told((3, ((0, 2, 0), (1, 2, 0), (2, 0, 0), (2, 1, 0))), [(0, 2, 0), (1, 2, 0)], 0)

    def test_rows_both_ways_of_a_pair(self):
        self.told((2, ((0, 1, 5), (1, 0, 4))), [(1, 0, 4)], 4)
        self.told((2, ((0, 1, 4), (1, 0, 5))), [(0, 1, 4)], 4)
        self.told((2, ((0, 1, 4), (1, 0, 4))), [(0, 1, 4)], 4)

    def test_places_that_come_to_hang_together_late(self):
        web = (4, ((0, 1, 1), (0, 3, 9), (1, 2, 3), (2, 3, 1), (3, 1, 3)))
        self.told(web, [(0, 1, 1), (2, 3, 1), (1, 2, 3)], 5)

    def test_one_place_and_no_rows(self):
        self.told((1, ()), [], 0)
        self.told((40, ()), [], 0)
        for kind in KINDS:
            self.assertEqual(cheapest((7, ()), kind=kind), ([], 0, 0))

    def test_the_work_by_hand(self):
        web = (3, ((0, 1, 3), (0, 2, 1), (1, 2, 2)))
        rows = [(0, 2, 1), (1, 2, 2)]
        # Put 3, 1 and 2, take 1, 2 and 3.
        for kind, work in (("left", 3), ("skew", 3), ("pair", 3), ("count", 2), ("cut", 1)):
            self.assertEqual(cheapest(web, kind=kind), (rows, 3, work), kind)

    def test_the_kind_that_is_left_out_is_pair(self):
        rows = tuple([(0, place, place * place % 17) for place in range(1, 20)])
        works = {kind: cheapest((20, rows), kind=kind)[2] for kind in KINDS}
        self.assertEqual(cheapest((20, rows))[2], works["pair"])
        self.assertEqual(list(works.values()).count(works["pair"]), 1)

    def test_no_kind(self):
        for kind in NO_KINDS:
            for web in (WEB, (1, ())):
                with self.subTest(kind=kind), self.assertRaises(NoKind):
                    cheapest(web, kind=kind)

    def test_lists_are_the_askers_own(self):
        cheapest(WEB)[0].clear()
        self.assertEqual(cheapest(WEB)[0], [(0, 2, 1), (1, 0, 2), (3, 4, 7)])

    def test_drawn_webs(self):
        for seed in range(25):
            chance = random.Random(seed)
            many = chance.randint(1, 6)
            pairs = [(one, other) for one in range(many) for other in range(many) if one != other]
            some = sorted(chance.sample(pairs, min(len(pairs), chance.randint(0, 8))))
            web = (many, tuple([(one, other, chance.randint(0, 6)) for one, other in some]))
            told = [cheapest(web, kind=kind) for kind in KINDS]
            for rows, length, work in told:
                self.assertEqual((rows, length), told[0][:2])
            self.assertEqual(told[0][1], least_sum(web, len(told[0][0])))
            self.assertEqual(hanging(many, told[0][0]), hanging(many, web[1]))
            self.assertEqual([work for rows, length, work in told], [all_works(web, kind) for kind in KINDS])


def hanging(many, rows):
    """For each place the least one that it hangs together with."""
    groups = list(range(many))
    for row in rows:
        ends = [groups[row[0]], groups[row[1]]]
        groups = [min(ends) if group in ends else group for group in groups]
    return groups


def least_sum(web, count):
    """The least sum of lengths of so many rows by which all hangs together that does by all rows."""
    many, rows = web
    return min(sum(row[2] for row in some) for some in itertools.combinations(rows, count)
               if hanging(many, some) == hanging(many, rows))


def all_works(web, kind):
    """The work of all rows put in and taken out, by the deeds one by one."""
    shape, works = (), 0
    for place, row in enumerate(web[1]):
        shape, work = put(kind, shape, (row[2], place))
        works += work
    while shape != ():
        item, shape, work = taken(kind, shape)
        works += work
    return works


class CodesTest(unittest.TestCase):
    def told(self, counts, times, total):
        before = list(counts)
        for kind in KINDS:
            answer = codes(counts, kind=kind)
            self.assertIsInstance(answer, tuple)
            self.assertEqual(answer[:2], (times, total), kind)
        self.assertEqual(counts, before)

    def test_by_hand(self):
        self.told([1, 1, 2, 3], [3, 3, 2, 1], 13)
        self.told([3, 2, 1, 1], [1, 2, 3, 3], 13)
        self.told([7, 1], [1, 1], 8)
        self.told([1, 1], [1, 1], 2)
        self.told([1, 2, 4, 8, 16], [4, 4, 3, 2, 1], 56)

    def test_counts_alike(self):
        self.told([1, 1, 1], [2, 2, 1], 5)
        self.told([5, 5, 5, 5], [2, 2, 2, 2], 40)
        # 2 of the list goes ahead of the 2 that was put together.
        self.told([1, 1, 2], [2, 2, 1], 6)
        self.told([2, 1, 1, 2, 2], [2, 3, 3, 2, 2], 18)
        self.told([10 ** 9] * 32, [5] * 32, 160 * 10 ** 9)

    def test_forty_counts(self):
        for kind in KINDS:
            times, total, work = codes([10 ** 9] * 40, kind=kind)
            self.assertEqual((len(times), sorted(set(times)), total), (40, [5, 6], sum(times) * 10 ** 9))
            self.assertEqual(sum(64 >> many for many in times), 64)

    def test_the_work_by_hand(self):
        self.assertEqual(codes([1, 1, 2, 3], kind="left"), ([3, 3, 2, 1], 13, 8))
        # Two trees, taken one by one, then one is put in: no work. Of the others the second put works once.
        for kind, work in (("left", 1), ("skew", 1), ("pair", 1), ("count", 1), ("cut", 0)):
            self.assertEqual(codes([3, 4], kind=kind), ([1, 1], 7, work))

    def test_the_kind_that_is_left_out_is_left(self):
        counts = [place * place % 23 + 1 for place in range(30)]
        works = {kind: codes(counts, kind=kind)[2] for kind in KINDS}
        self.assertEqual(codes(counts)[2], works["left"])
        self.assertEqual(list(works.values()).count(works["left"]), 1)

    def test_no_kind(self):
        for kind in NO_KINDS:
            with self.subTest(kind=kind), self.assertRaises(NoKind):
                codes([1, 2], kind=kind)

    def test_drawn_counts(self):
        for seed in range(20):
            chance = random.Random(seed)
            counts = [chance.randint(1, chance.choice((2, 9, 99))) for turn in range(chance.randint(2, 5))]
            told = [codes(counts, kind=kind) for kind in KINDS]
            for kind, (times, total, work) in zip(KINDS, told):
                self.assertEqual((times, total), told[0][:2])
                self.assertEqual(total, sum(count * many for count, many in zip(counts, times)))
                self.assertEqual(work, put_together(counts, kind))
            self.assertEqual(told[0][1], shortest_sum(counts))


def put_together(counts, kind):
    """The work of all deeds, one by one."""
    shape, works = (), 0
    for place, count in enumerate(counts):
        shape, work = put(kind, shape, (count, place))
        works += work
    for ticket in range(len(counts), 2 * len(counts) - 1):
        one, shape, work = taken(kind, shape)
        works += work
        other, shape, work = taken(kind, shape)
        works += work
        shape, work = put(kind, shape, (one[0] + other[0], ticket))
        works += work
    return works


def shortest_sum(counts):
    """The least sum of counts by lengths of codes of which none begins another."""
    return min(sum(count * many for count, many in zip(counts, lengths))
               for lengths in itertools.product(range(1, 5), repeat=len(counts))
               if sum(16 >> many for many in lengths) <= 16)


if __name__ == "__main__":
    unittest.main()
