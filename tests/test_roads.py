"""Point 19 of DOC.md: shortest roads by hand and by drawn webs, the places ahead, and the work of all."""

import random
import unittest

from heapwright.deeds import lowered, put, taken
from heapwright.errors import NoKind, NoPlace
from heapwright.items import KINDS
from heapwright.webs import is_paper, is_web, roads

WEB = (5, ((0, 1, 4), (0, 2, 1), (1, 3, 1), (2, 1, 2), (2, 3, 5), (3, 0, 7)))


def drawn(seed):
    chance = random.Random(seed)
    many = chance.choice((1, 2, 3, 6, 12, 40))
    pairs = [(one, other) for one in range(many) for other in range(many) if one != other]
    some = sorted(chance.sample(pairs, min(len(pairs), chance.choice((0, 3, 20, 200)))))
    span = chance.choice((0, 1, 5, 10 ** 9))
    return many, tuple([(one, other, chance.randint(0, span)) for one, other in some])


def shortest(web, start):
    """Lengths of shortest roads, found without a heap."""
    lengths = [None] * web[0]
    lengths[start] = 0
    for turn in range(web[0]):
        for one, other, length in web[1]:
            if lengths[one] is not None and (lengths[other] is None or lengths[one] + length < lengths[other]):
                lengths[other] = lengths[one] + length
    return lengths


def step_by_step(web, start, kind):
    """The order in which places are taken out, and the work of all, by the deeds one by one."""
    shape, work = put(kind, (), (0, start))
    keys, order = {start: 0}, []
    while shape != ():
        (length, place), shape, more = taken(kind, shape)
        work += more
        order.append(place)
        for one, other, row in web[1]:
            more = 0
            if one == place and other not in keys:
                shape, more = put(kind, shape, (length + row, other))
                keys[other] = length + row
            elif one == place and other not in order and length + row < keys[other]:
                shape, more = lowered(kind, shape, other, length + row)
                keys[other] = length + row
            work += more
    return order, work


class RoadsTest(unittest.TestCase):
    def told(self, web, start, lengths, ahead):
        self.assertIs(is_web(web), True)
        for kind in KINDS:
            answer = roads(web, start, kind=kind)
            self.assertIsInstance(answer, tuple)
            self.assertEqual(answer[:2], (lengths, ahead), kind)

    def test_by_hand(self):
        self.told(WEB, 0, [0, 3, 1, 4, None], [None, 2, 0, 1, None])
        self.told(WEB, 1, [8, 0, 9, 1, None], [3, None, 0, 1, None])
        self.told(WEB, 4, [None, None, None, None, 0], [None] * 5)

    def test_the_work_by_hand(self):
        # Two are put beside another one that waits; each lowered item stands in no tree.
        for kind, work in (("left", 2), ("skew", 2), ("pair", 2), ("count", 2), ("cut", 0)):
            self.assertEqual(roads(WEB, 0, kind=kind)[2], work, kind)

    def test_the_kind_that_is_left_out_is_cut(self):
        web = (4, ((0, 1, 9), (0, 2, 8), (0, 3, 7), (3, 1, 1), (3, 2, 0)))
        self.assertEqual(roads(web, 0), roads(web, 0, kind="cut"))
        self.assertEqual(roads(web, 0), ([0, 8, 7, 7], [None, 3, 3, 0], 2))
        self.assertNotEqual(roads(web, 0), roads(web, 0, kind="left"))

    def test_one_place(self):
        self.told((1, ()), 0, [0], [None])

    def test_no_rows(self):
        self.told((3, ()), 1, [None, 0, None], [None, None, None])

    def test_rows_go_one_way(self):
        self.told((2, ((0, 1, 5),)), 1, [None, 0], [None, None])

    def test_of_several_rows_that_just_make_a_length_the_least_place(self):
        self.told((4, ((0, 1, 1), (0, 2, 1), (1, 3, 1), (2, 3, 1))), 0, [0, 1, 1, 2], [None, 0, 0, 1])
        self.told((4, ((0, 1, 2), (0, 2, 1), (1, 3, 1), (2, 3, 2))), 0, [0, 2, 1, 3], [None, 0, 0, 1])
        self.told((4, ((0, 1, 1), (1, 2, 1), (3, 0, 2), (3, 1, 3), (3, 2, 4))), 3, [2, 3, 4, 0], [3, 0, 1, None])

    def test_lengths_of_nothing(self):
        # 1 is taken out ahead of 2, as its ticket is less.
        self.told((3, ((0, 1, 0), (0, 2, 0), (2, 1, 0))), 0, [0, 0, 0], [None, 0, 0])
        # 2 is taken out ahead of 1, so that 1, though less, is not ahead of 2.
        self.told((4, ((1, 2, 0), (2, 1, 0), (3, 2, 0))), 3, [None, 0, 0, 0], [None, 2, 3, None])
        # A row to the start that just makes its length.
        self.told((2, ((0, 1, 0), (1, 0, 0))), 0, [0, 0], [None, 0])
        self.told((2, ((0, 1, 0), (1, 0, 0))), 1, [0, 0], [1, None])

    def test_lengths_at_the_bound(self):
        rows = tuple([(place, place + 1, 10 ** 9) for place in range(39)])
        self.told((40, rows), 0, [place * 10 ** 9 for place in range(40)], [None] + list(range(39)))

    def test_no_place(self):
        for web in ((1, ()), WEB, (40, ())):
            for start in (-1, -web[0], web[0], web[0] + 1, 10 ** 39, -10 ** 39):
                with self.subTest(web=web, start=start), self.assertRaises(NoPlace):
                    roads(web, start)
                with self.assertRaises(NoPlace):
                    roads(web, start, kind="no")

    def test_no_kind(self):
        for kind in ("", "no", "Left", "CUT", "cut ", " cut", "soft", "leftskew", "c" * 400, "le", "l"):
            with self.subTest(kind=kind), self.assertRaises(NoKind):
                roads(WEB, 0, kind=kind)

    def test_lists_are_the_askers_own(self):
        first = roads(WEB, 0)
        first[0].append(5)
        first[1][0] = 7
        self.assertEqual(roads(WEB, 0)[:2], ([0, 3, 1, 4, None], [None, 2, 0, 1, None]))
        one, two = roads((2, ()), 0)[:2]
        one[1] = 3
        self.assertEqual(two, [None, None])

    def test_drawn_webs(self):
        for seed in range(60):
            web = drawn(seed)
            start = seed % web[0]
            lengths = shortest(web, start)
            wanted = None
            for kind in KINDS:
                order, work = step_by_step(web, start, kind)
                told = roads(web, start, kind=kind)
                self.assertEqual((told[0], told[2]), (lengths, work))
                self.assertIs(is_paper(web, start, told[0], order), True)
                self.check_ahead(web, start, lengths, order, told[1])
                wanted = wanted or told[1]
                self.assertEqual(told[1], wanted)

    def check_ahead(self, web, start, lengths, order, ahead):
        for place in range(web[0]):
            makers = [one for one, other, length in web[1]
                      if other == place and place in order and one in order[:order.index(place)]
                      and lengths[one] + length == lengths[place]]
            self.assertEqual(ahead[place], min(makers, default=None))
            self.assertEqual(ahead[place] is None, place == start or lengths[place] is None)


if __name__ == "__main__":
    unittest.main()
