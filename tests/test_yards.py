"""Points 2, 21 and 22 of DOC.md: a yard's deeds, what it tells and refuses, and its ledger."""

import unittest

from heapwright.errors import (
    Empty, HeapError, Higher, Itself, NoHeap, NoKey, NoKind, NoName, NoTicket, Taken, TooMany, Unlike)
from heapwright.items import KINDS
from heapwright.yards import Yard
from tests.things import FORTY_FIGURES, NO_NUMBERS, deep_things
from tests.trees import c, k, s

NO_NAMES = (
    "", "A", "aB", "a1", "1", "a b", " a", "a ", "a_b", "a-b", "abcdefghi", "a" * 400, "{", "`", "a\n",
    0, 1, -1, FORTY_FIGURES, True, False, None, [], ["a"], (), ("a",), [["a"]], (("a",),),
)
NO_KEYS = (10 ** 12 + 1, -10 ** 12 - 1, FORTY_FIGURES, -FORTY_FIGURES) + NO_NUMBERS
# Texts of kinds in other letters, and things that are no texts.
NO_KINDS = ("", "Left", "LEFT", "cut ", "lef", "leftskew", "a", 0, 1, True, None, [], ["left"], ("left",), KINDS)
BAD_TICKETS = (-1, 10 ** 6, 10 ** 6 + 1, FORTY_FIGURES, -FORTY_FIGURES) + NO_NUMBERS


def letter(place):
    return "abcdefghijklmnopqrstuvwxyz"[place]


def stocked(kind="left"):
    """A yard with heap a of the tickets 0 and 1, keys 5 and 3, heap b of ticket 2, key 4, and heap none."""
    yard = Yard()
    for name in ("a", "b", "none"):
        yard.make(name, kind)
    yard.put("a", 5)
    yard.put("a", 3)
    yard.put("b", 4)
    return yard


def all_told(yard):
    """All that a yard tells of itself."""
    heaps = [(name, yard.kind(name), yard.shape(name), yard.items(name)) for name in yard.names()]
    homes = [(item[1], yard.home(item[1])) for heap in heaps for item in heap[3]]
    return heaps, homes, yard.ledger(), len(yard)


class Refusing(unittest.TestCase):
    def refused(self, yard, error, deed, *arguments):
        """Check that a deed, or what is asked, is refused with just this error, and that all stays as it was."""
        before = all_told(yard)
        with self.subTest(deed, arguments=arguments):
            with self.assertRaises(error) as caught:
                getattr(yard, deed)(*arguments)
            self.assertIsInstance(caught.exception, HeapError)
            self.assertEqual(all_told(yard), before)


class MakeTest(Refusing):
    def test_at_first_there_are_none(self):
        yard = Yard()
        self.assertEqual(yard.names(), [])
        self.assertEqual(yard.ledger(), [])
        self.assertEqual(len(yard), 0)

    def test_make(self):
        yard = Yard()
        for name, kind in (("b", "left"), ("abcdefgh", "skew"), ("a", "pair"), ("zz", "count"), ("z", "cut")):
            self.assertIsNone(yard.make(name, kind))
            self.assertEqual(yard.kind(name), kind)
            self.assertEqual(yard.shape(name), ())
            self.assertEqual(yard.items(name), [])
        self.assertEqual(yard.names(), ["a", "abcdefgh", "b", "z", "zz"])
        self.assertEqual(yard.ledger(), [])
        self.assertEqual(len(yard), 0)

    def test_no_name(self):
        for thing in NO_NAMES:
            self.refused(stocked(), NoName, "make", thing, "left")
            self.refused(stocked(), NoName, "make", thing, "no kind")
        for thing in deep_things():
            with self.assertRaises(NoName):
                stocked().make(thing, "left")

    def test_taken(self):
        for kind in KINDS + ("no kind", None):
            self.refused(stocked(), Taken, "make", "a", kind)

    def test_no_kind(self):
        for thing in NO_KINDS:
            self.refused(stocked(), NoKind, "make", "c", thing)
        for thing in deep_things():
            with self.assertRaises(NoKind):
                stocked().make("c", thing)

    def test_twelve_and_one_more(self):
        yard = Yard()
        for place in range(12):
            yard.make(letter(place), KINDS[place % 5])
        self.assertEqual(len(yard.names()), 12)
        self.refused(yard, TooMany, "make", "z", "left")
        self.refused(yard, NoName, "make", "Z", "left")
        self.refused(yard, Taken, "make", "a", "left")
        self.refused(yard, NoKind, "make", "z", "no")
        yard.sink("a")
        yard.make("z", "left")
        self.refused(yard, TooMany, "make", "a", "left")
        yard.join("z", "f")
        yard.make("a", "left")


class PutTest(Refusing):
    def test_tickets_count_over_all_heaps(self):
        yard = stocked()
        self.assertEqual(yard.put("a", -10 ** 12), 3)
        self.assertEqual(yard.put("none", 10 ** 12), 4)
        self.assertEqual(yard.put("a", 5), 5)
        self.assertEqual(yard.items("a"), [(-10 ** 12, 3), (3, 1), (5, 0), (5, 5)])
        self.assertEqual(len(yard), 6)

    def test_no_heap(self):
        yard = stocked()
        for thing in NO_NAMES + ("c", "aa", "left"):
            self.refused(yard, NoHeap, "put", thing, 1)
            self.refused(yard, NoHeap, "put", thing, None)

    def test_no_key(self):
        yard = stocked()
        for thing in NO_KEYS:
            self.refused(yard, NoKey, "put", "a", thing)
        for thing in deep_things():
            if thing not in (5, -5):
                with self.assertRaises(NoKey):
                    yard.put("a", thing)
        self.assertEqual(yard.put("a", 1), 3)

    def test_three_hundred_and_one_more(self):
        for kind in KINDS:
            yard = Yard()
            yard.make("a", kind)
            yard.make("b", kind)
            for key in range(300):
                self.assertEqual(yard.put("a", key * 7 % 300), key)
            self.refused(yard, TooMany, "put", "a", 0)
            self.refused(yard, NoKey, "put", "a", None)
            self.assertEqual(yard.put("b", 0), 300)
            yard.take("a")
            self.assertEqual(yard.put("a", 0), 301)
            self.refused(yard, TooMany, "put", "a", 0)
            self.assertEqual(len(yard), 301)


class JoinTest(Refusing):
    def test_the_second_is_gone_and_its_tickets_are_at_home_in_the_first(self):
        for kind in KINDS:
            yard = stocked(kind)
            self.assertIsNone(yard.join("b", "a"))
            self.assertEqual(yard.names(), ["b", "none"])
            self.assertEqual(yard.items("b"), [(3, 1), (4, 2), (5, 0)])
            self.assertEqual([yard.home(ticket) for ticket in range(3)], ["b"] * 3)
            self.refused(yard, NoHeap, "items", "a")
            yard.lower(0, 1)
            self.assertEqual(yard.take("b"), (1, 0))
            yard.make("a", kind)
            self.assertEqual(yard.items("a"), [])
            self.assertEqual(yard.home(1), "b")

    def test_with_nothing(self):
        yard = stocked()
        yard.join("none", "b")
        yard.make("b", "left")
        yard.join("none", "b")
        self.assertEqual(yard.items("none"), [(4, 2)])
        self.assertEqual(yard.home(2), "none")

    def test_the_second_comes_behind_the_first(self):
        yard = stocked("cut")
        yard.join("b", "a")
        self.assertEqual(yard.shape("b"), (k(4, ticket=2), k(5, ticket=0), k(3, ticket=1)))

    def test_no_heap(self):
        yard = stocked()
        for thing in NO_NAMES + ("c",):
            self.refused(yard, NoHeap, "join", thing, "a")
            self.refused(yard, NoHeap, "join", "a", thing)
            self.refused(yard, NoHeap, "join", thing, thing)

    def test_itself(self):
        self.refused(stocked(), Itself, "join", "a", "a")
        self.refused(stocked(), Itself, "join", "none", "none")

    def test_unlike(self):
        for one in KINDS:
            for other in KINDS:
                if one != other:
                    yard = stocked(one)
                    yard.make("c", other)
                    self.refused(yard, Unlike, "join", "a", "c")
                    self.refused(yard, Unlike, "join", "c", "a")

    def test_three_hundred_and_one_more(self):
        yard = Yard()
        for name, kind, many in (("a", "cut", 200), ("b", "cut", 101), ("c", "pair", 200)):
            yard.make(name, kind)
            for key in range(many):
                yard.put(name, key)
        self.refused(yard, TooMany, "join", "a", "b")
        self.refused(yard, TooMany, "join", "b", "a")
        # These would be too many together, too.
        self.refused(yard, Itself, "join", "a", "a")
        self.refused(yard, Unlike, "join", "a", "c")
        yard.take("b")
        yard.join("a", "b")
        self.assertEqual(len(yard.items("a")), 300)


class TakeTest(Refusing):
    def test_take(self):
        for kind in KINDS:
            yard = stocked(kind)
            self.assertEqual(yard.take("a"), (3, 1))
            self.refused(yard, NoTicket, "home", 1)
            self.assertEqual(yard.take("a"), (5, 0))
            self.refused(yard, Empty, "take", "a")
            self.assertEqual(len(yard), 1)
            self.assertEqual(yard.put("a", 9), 3)

    def test_no_heap_and_empty(self):
        yard = stocked()
        for thing in NO_NAMES + ("c",):
            self.refused(yard, NoHeap, "take", thing)
        self.refused(yard, Empty, "take", "none")


class LowerTest(Refusing):
    def test_lower(self):
        for kind in KINDS:
            yard = stocked(kind)
            self.assertIsNone(yard.lower(0, 2))
            self.assertEqual(yard.items("a"), [(2, 0), (3, 1)])
            self.assertEqual(yard.least("a"), (2, 0))
            yard.lower(0, 2)
            yard.lower(2, -10 ** 12)
            self.assertEqual(yard.items("b"), [(-10 ** 12, 2)])

    def test_no_ticket(self):
        yard = stocked()
        yard.take("b")
        for thing in BAD_TICKETS + (2, 3):
            self.refused(yard, NoTicket, "lower", thing, 0)
            self.refused(yard, NoTicket, "lower", thing, None)
            self.refused(yard, NoTicket, "lower", thing, 10 ** 12)
        for thing in deep_things():
            with self.assertRaises(NoTicket):
                yard.lower(thing, 0)

    def test_no_key(self):
        yard = stocked()
        for thing in NO_KEYS:
            self.refused(yard, NoKey, "lower", 0, thing)

    def test_higher(self):
        yard = stocked()
        for key in (6, 10 ** 12):
            self.refused(yard, Higher, "lower", 0, key)
        self.refused(yard, Higher, "lower", 1, 4)


class DropTest(Refusing):
    def test_drop(self):
        for kind in KINDS:
            yard = stocked(kind)
            self.assertIsNone(yard.drop(0))
            self.assertEqual(yard.items("a"), [(3, 1)])
            self.refused(yard, NoTicket, "drop", 0)
            yard.drop(1)
            yard.drop(2)
            self.assertEqual(len(yard), 0)
            self.assertEqual(yard.names(), ["a", "b", "none"])
            self.assertEqual(yard.put("b", 0), 3)

    def test_no_ticket(self):
        yard = stocked()
        for thing in BAD_TICKETS + (3,):
            self.refused(yard, NoTicket, "drop", thing)
        for thing in deep_things():
            with self.assertRaises(NoTicket):
                yard.drop(thing)


class SinkTest(Refusing):
    def test_sink(self):
        yard = stocked()
        self.assertIsNone(yard.sink("a"))
        self.assertEqual(yard.names(), ["b", "none"])
        self.assertEqual(len(yard), 1)
        for ticket in (0, 1):
            self.refused(yard, NoTicket, "home", ticket)
            self.refused(yard, NoTicket, "lower", ticket, 0)
            self.refused(yard, NoTicket, "drop", ticket)
        self.refused(yard, NoHeap, "sink", "a")
        yard.make("a", "cut")
        self.assertEqual(yard.items("a"), [])
        self.assertEqual(yard.put("a", 1), 3)

    def test_no_heap(self):
        yard = stocked()
        for thing in NO_NAMES + ("c",):
            self.refused(yard, NoHeap, "sink", thing)


class ToldTest(Refusing):
    def test_shapes(self):
        self.assertEqual(stocked("left").shape("a"), s(3, s(5, ticket=0), ticket=1))
        self.assertEqual(stocked("skew").shape("a"), s(3, s(5, ticket=0), ticket=1))
        self.assertEqual(stocked("pair").shape("a"), c(3, c(5, ticket=0), ticket=1))
        self.assertEqual(stocked("count").shape("a"), (c(3, c(5, ticket=0), ticket=1),))
        self.assertEqual(stocked("cut").shape("a"), (k(5, ticket=0), k(3, ticket=1)))

    def test_what_is_told_of_a_heap(self):
        for kind in KINDS:
            yard = stocked(kind)
            self.assertEqual(yard.kind("a"), kind)
            self.assertEqual(yard.items("a"), [(3, 1), (5, 0)])
            self.assertEqual(yard.least("a"), (3, 1))
            self.assertEqual(yard.least("b"), (4, 2))
            self.assertEqual([yard.home(ticket) for ticket in range(3)], ["a", "a", "b"])
            self.assertEqual(len(yard), 3)

    def test_no_heap(self):
        yard = stocked()
        for thing in NO_NAMES + ("c",):
            for asked in ("kind", "shape", "items", "least"):
                self.refused(yard, NoHeap, asked, thing)
        for thing in deep_things():
            with self.assertRaises(NoHeap):
                yard.items(thing)

    def test_empty(self):
        self.refused(stocked(), Empty, "least", "none")

    def test_no_ticket(self):
        yard = stocked()
        for thing in BAD_TICKETS + (3,):
            self.refused(yard, NoTicket, "home", thing)

    def test_lists_are_new_ones(self):
        yard = stocked()
        before = all_told(yard)
        for told in (yard.names(), yard.items("a"), yard.ledger()):
            told.append(None)
            told[0] = 5
        self.assertEqual(all_told(yard), before)
        names, items, rows = yard.names(), yard.items("a"), yard.ledger()
        wanted = list(names), list(items), list(rows)
        yard.take("a")
        yard.sink("b")
        self.assertEqual((names, items, rows), wanted)

    def test_yards_share_nothing(self):
        one, other = stocked(), Yard()
        self.assertEqual((other.names(), other.ledger(), len(other)), ([], [], 0))
        other.make("a", "cut")
        self.assertEqual(other.put("a", 1), 0)
        self.assertEqual(one.kind("a"), "left")

    def test_the_same_asked_again(self):
        yard = stocked()
        self.assertEqual(all_told(yard), all_told(yard))


class LedgerTest(Refusing):
    """5, 3 and 4 are put in; the least is taken out; 5 is lowered to 1, 4 dropped; a heap of 9 is joined."""

    rows = {
        "left": [("put", 0, 0, 0), ("put", 1, 0, 1), ("put", 1, 0, 1), ("take", 1, 0, 2), ("lower", 1, 0, 2),
                 ("drop", 0, 0, 2), ("put", 0, 0, 0), ("join", 1, 0, 1)],
        "skew": [("put", 0, 0, 0), ("put", 1, 0, 3), ("put", 1, 0, 5), ("take", 1, 0, 7), ("lower", 1, 0, 8),
                 ("drop", 0, 0, 8), ("put", 0, 0, 0), ("join", 1, 0, 3)],
        "pair": [("put", 0, 0, None), ("put", 1, 0, None), ("put", 1, 0, None), ("take", 1, 0, None),
                 ("lower", 1, 0, None), ("drop", 0, 0, None), ("put", 0, 0, None), ("join", 1, 0, None)],
        "count": [("put", 0, 1, 1), ("put", 1, 0, 1), ("put", 0, 1, 1), ("take", 1, -1, 0), ("lower", 1, 0, 1),
                  ("drop", 1, 0, 1), ("put", 0, 1, 1), ("join", 1, -1, 0)],
        "cut": [("put", 0, 1, 1), ("put", 0, 1, 1), ("put", 0, 1, 1), ("take", 1, -2, 1), ("lower", 1, 1, 4),
                ("drop", 0, -1, 4), ("put", 0, 1, 1), ("join", 0, 0, 0)],
    }

    def worked(self, kind):
        yard = Yard()
        yard.make("a", kind)
        for key in (5, 3, 4):
            yard.put("a", key)
        self.assertEqual(yard.take("a"), (3, 1))
        yard.lower(0, 1)
        yard.drop(2)
        yard.make("b", kind)
        yard.put("b", 9)
        yard.join("a", "b")
        return yard

    def test_rows_of_each_deed_and_kind(self):
        for kind in KINDS:
            with self.subTest(kind):
                self.assertEqual(self.worked(kind).ledger(), self.rows[kind])

    def test_make_and_sink_write_none(self):
        yard = self.worked("cut")
        yard.make("b", "left")
        yard.sink("a")
        yard.sink("b")
        self.assertEqual(yard.ledger(), self.rows["cut"])

    def test_what_is_refused_writes_none(self):
        yard = self.worked("cut")
        for deed, arguments in (("put", ("x", 1)), ("put", ("a", None)), ("take", ("x",)), ("lower", (0, 99)),
                                ("lower", (True, 0)), ("drop", (1,)), ("join", ("a", "a")), ("join", ("a", "b"))):
            with self.assertRaises(HeapError):
                getattr(yard, deed)(*arguments)
        self.assertEqual(yard.ledger(), self.rows["cut"])

    def test_the_credit_of_a_join_is_of_both(self):
        yard = Yard()
        for name in ("a", "b"):
            yard.make(name, "left")
        for key in range(3):
            yard.put("a", key)
        for key in range(8):
            yard.put("b", key)
        yard.join("a", "b")
        self.assertEqual(yard.ledger()[-1][3], 2 + 3 - 1)

    def test_what_skew_holds(self):
        yard = Yard()
        yard.make("a", "skew")
        # Each is put above the others: the one sides have all.
        for key in (4, 3, 2, 1):
            yard.put("a", key)
        self.assertEqual([row[2] for row in yard.ledger()], [0] * 4)
        yard.put("a", 5)
        # Now 1 has 5 as its one side, and as its other side the three others of its five.
        self.assertEqual(yard.ledger()[-1], ("put", 1, 1, 7))
        yard.put("a", 6)
        self.assertEqual(yard.ledger()[-1][2], -1)


if __name__ == "__main__":
    unittest.main()
