"""Points 2 and 6 of DOC.md: what each deed refuses, in which order, and that what is handed in stays."""

import unittest

from heapwright.deeds import dropped, joined, lowered, put, taken
from heapwright.errors import Empty, Higher, NoTicket, Twice
from heapwright.items import KINDS
from heapwright.shapes import spot_of
from tests.things import FORTY_FIGURES, NO_NUMBERS, deep_things
from tests.trees import c, k, s

# Each has the tickets 0, 1, 2 and 5, the last one at the bottom with the key 8.
SHAPES = {
    "left": s(0, s(1, s(8, ticket=5)), s(2)),
    "skew": s(0, s(2), s(1, (), s(8, ticket=5))),
    "pair": c(0, c(2), c(1, c(8, ticket=5))),
    "count": (c(0, c(2), c(1, c(8, ticket=5))),),
    "cut": (k(0, k(1, k(8, ticket=5))), k(2)),
}
NO_TICKETS = (3, 4, 6, -1, -5, 10 ** 6, 10 ** 6 + 1, FORTY_FIGURES, -FORTY_FIGURES) + NO_NUMBERS


class RefusalsTest(unittest.TestCase):
    def test_the_shapes_have_the_tickets(self):
        for kind in KINDS:
            for ticket in (0, 1, 2, 5):
                self.assertIsNotNone(spot_of(kind, SHAPES[kind], ticket))

    def test_put_twice(self):
        for kind in KINDS:
            for ticket in (0, 1, 2, 5):
                for key in (-9, 0, 1, 2, 8, 9):
                    with self.assertRaises(Twice):
                        put(kind, SHAPES[kind], (key, ticket))
            put(kind, SHAPES[kind], (8, 6))

    def test_join_twice(self):
        for kind in KINDS:
            shape = SHAPES[kind]
            for ticket in (0, 1, 2, 5):
                other = put(kind, put(kind, (), (-7, ticket))[0], (7, 9))[0]
                for one, two in ((shape, other), (other, shape)):
                    with self.assertRaises(Twice):
                        joined(kind, one, two)
            with self.assertRaises(Twice):
                joined(kind, shape, shape)
            joined(kind, shape, put(kind, (), (0, 9))[0])

    def test_take_of_nothing(self):
        for kind in KINDS:
            with self.assertRaises(Empty):
                taken(kind, ())

    def test_no_ticket(self):
        for kind in KINDS:
            for thing in NO_TICKETS:
                with self.subTest(kind, thing=thing):
                    with self.assertRaises(NoTicket):
                        lowered(kind, SHAPES[kind], thing, -9)
                    with self.assertRaises(NoTicket):
                        dropped(kind, SHAPES[kind], thing)
                    with self.assertRaises(NoTicket):
                        dropped(kind, (), thing)
                    with self.assertRaises(NoTicket):
                        lowered(kind, (), thing, 0)

    def test_no_ticket_of_deep_things(self):
        for kind in KINDS:
            for thing in deep_things():
                with self.assertRaises(NoTicket):
                    lowered(kind, SHAPES[kind], thing, 0)
                with self.assertRaises(NoTicket):
                    dropped(kind, SHAPES[kind], thing)

    def test_higher(self):
        for kind in KINDS:
            for ticket, key in ((0, 1), (1, 2), (2, 3), (5, 9), (5, 10 ** 12)):
                with self.assertRaises(Higher):
                    lowered(kind, SHAPES[kind], ticket, key)
            self.assertEqual(lowered(kind, SHAPES[kind], 5, 8), (SHAPES[kind], 0))

    def test_no_ticket_goes_ahead_of_higher(self):
        for kind in KINDS:
            for thing in (3, True, False, None, "5", [5], (8, 5), 5 * 10 ** 30):
                with self.assertRaises(NoTicket):
                    lowered(kind, SHAPES[kind], thing, 10 ** 12)

    def test_what_is_handed_in_stays_and_is_answered_the_same(self):
        for kind in KINDS:
            shape = SHAPES[kind]
            before = repr(shape)
            for deed in (
                    lambda: put(kind, shape, (4, 7)), lambda: joined(kind, shape, put(kind, (), (-4, 7))[0]),
                    lambda: taken(kind, shape), lambda: lowered(kind, shape, 5, -3), lambda: dropped(kind, shape, 1)):
                first = deed()
                self.assertEqual(deed(), first)
                self.assertEqual(repr(shape), before)


if __name__ == "__main__":
    unittest.main()
