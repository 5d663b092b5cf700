"""Points 2 and 4 of DOC.md: keys, tickets, items, and the kinds of heaps."""

import copy
import inspect
import unittest

from heapwright.items import KINDS, is_item, is_key
from tests.things import FORTY_FIGURES, NO_NUMBERS, deep_things, within

BOUND = 10 ** 12
LAST_TICKET = 10 ** 6

KEYS = (-BOUND, 1 - BOUND, -7, -1, 0, 1, 2, 7, 999, LAST_TICKET + 1, BOUND - 1, BOUND)
BEYOND_KEYS = (BOUND + 1, -BOUND - 1, 2 * BOUND, -2 * BOUND, 2 ** 64, -2 ** 64,
               FORTY_FIGURES, -FORTY_FIGURES, 10 ** 39, -10 ** 39)
TICKETS = (0, 1, 2, 500, LAST_TICKET - 1, LAST_TICKET)
BEYOND_TICKETS = (-1, -2, LAST_TICKET + 1, LAST_TICKET + 2, -LAST_TICKET, BOUND, -BOUND,
                  FORTY_FIGURES, -FORTY_FIGURES)


class Told(unittest.TestCase):
    def told(self, function, thing, wanted):
        """Check that True or False itself is told, twice, and that thing stays as it was."""
        before = copy.deepcopy(thing)
        for time in ("first", "again"):
            with self.subTest(function.__name__, thing=thing, time=time):
                self.assertIs(function(thing), wanted)
        self.assertEqual(repr(thing), repr(before))


class KeysTest(Told):
    def test_whole_numbers_within_both_bounds(self):
        for number in KEYS:
            self.told(is_key, number, True)

    def test_whole_numbers_beyond_a_bound(self):
        for number in BEYOND_KEYS:
            self.told(is_key, number, False)

    def test_truths_none_texts_lists_and_tuples(self):
        for thing in NO_NUMBERS:
            self.told(is_key, thing, False)

    def test_a_key_within_something_is_no_key(self):
        for thing in ([5], (5,), (5, 6), [[5]], "5"):
            self.told(is_key, thing, False)

    def test_things_deeply_within_one_another(self):
        for thing in deep_things():
            self.told(is_key, thing, False)


class ItemsTest(Told):
    def test_keys_with_tickets(self):
        for key in KEYS:
            for ticket in TICKETS:
                self.told(is_item, (key, ticket), True)

    def test_a_ticket_beyond_a_bound(self):
        for key in KEYS:
            for ticket in BEYOND_TICKETS:
                self.told(is_item, (key, ticket), False)

    def test_a_key_beyond_a_bound(self):
        for key in BEYOND_KEYS:
            for ticket in TICKETS + BEYOND_TICKETS:
                self.told(is_item, (key, ticket), False)

    def test_the_order_of_key_and_ticket_counts(self):
        self.told(is_item, (-1, 0), True)
        self.told(is_item, (0, -1), False)
        self.told(is_item, (BOUND, LAST_TICKET), True)
        self.told(is_item, (LAST_TICKET, BOUND), False)

    def test_other_things_in_the_place_of_the_key(self):
        for thing in NO_NUMBERS + (within(38, lambda x: [x], 1), within(38, lambda x: (x,), 1)):
            self.told(is_item, (thing, 1), False)

    def test_other_things_in_the_place_of_the_ticket(self):
        for thing in NO_NUMBERS + (within(38, lambda x: [x], 1), within(38, lambda x: (x,), 1)):
            self.told(is_item, (1, thing), False)

    def test_truths_in_both_places(self):
        for one in (True, False):
            for other in (True, False):
                self.told(is_item, (one, other), False)

    def test_a_list_of_two_is_no_item(self):
        for thing in ([0, 0], [1, 2], [-BOUND, LAST_TICKET], [(1, 2)], [(1, 2), (3, 4)]):
            self.told(is_item, thing, False)

    def test_tuples_of_another_length(self):
        for thing in ((), (0,), (1,), (0, 0, 0), (1, 2, 3), (1, 2, None), (1, 2, 3, 4), ((1, 2),)):
            self.told(is_item, thing, False)

    def test_items_within_items_are_none(self):
        for thing in (((1, 2), 3), (1, (2, 3)), ((1, 2), (3, 4)), ([1], 2), (1, [2])):
            self.told(is_item, thing, False)

    def test_truths_none_numbers_and_texts(self):
        for thing in (True, False, None, "", "12", "(1, 2)", "ab") + KEYS + BEYOND_KEYS:
            self.told(is_item, thing, False)

    def test_things_deeply_within_one_another(self):
        for thing in deep_things():
            wanted = repr(thing) in ("(5, 0)", "(-5, 0)", "(0, 5)", "(5, 5)")
            self.told(is_item, thing, wanted)


class InterfaceTest(unittest.TestCase):
    def test_kinds_are_a_tuple_in_the_order_told(self):
        self.assertIs(type(KINDS), tuple)
        self.assertEqual(KINDS, ("left", "skew", "pair", "count", "cut"))

    def test_both_take_one_thing(self):
        for function in (is_key, is_item):
            self.assertEqual(list(inspect.signature(function).parameters), ["thing"])


if __name__ == "__main__":
    unittest.main()
