"""Point 18 of DOC.md: the so-manieth of many items, and how many were taken out to find it."""

import random
import unittest

from heapwright.errors import NoPlace
from heapwright.picking import picked
from heapwright.soft import soft_put, soft_taken


def by_the_words(items, number):
    """The same as the document tells it."""
    if len(items) <= 9:
        return sorted(items)[number], 0
    shape = ()
    for item in items:
        shape = soft_put(shape, item, slack=4)
    out = []
    for turn in range(len(items) // 3):
        item, shape = soft_taken(shape, slack=4)
        out.append(item)
    parts = [[item for item in items if item < max(out)], [item for item in items if item > max(out)]]
    if number == len(parts[0]):
        return max(out), len(out)
    if number < len(parts[0]):
        item, takes = by_the_words(parts[0], number)
    else:
        item, takes = by_the_words(parts[1], number - len(parts[0]) - 1)
    return item, takes + len(out)


def drawn(many, span):
    chance = random.Random(f"{many} {span}")
    items = [(chance.randint(-span, span), ticket) for ticket in range(many)]
    chance.shuffle(items)
    return items


class PickedTest(unittest.TestCase):
    def each_number(self, items):
        """Check the answer of each number; tell the list of how many were taken out."""
        before = list(items)
        told = [picked(items, number) for number in range(len(items))]
        self.assertEqual([item for item, takes in told], sorted(before))
        self.assertEqual(items, before)
        return [takes for item, takes in told]

    def test_one(self):
        self.assertEqual(picked([(5, 3)], 0), ((5, 3), 0))

    def test_up_to_nine_none_is_taken_out(self):
        for many in range(1, 10):
            self.assertEqual(self.each_number(drawn(many, 3)), [0] * many)
        self.assertEqual(self.each_number([(9 - place, place) for place in range(9)]), [0] * 9)

    def test_ten_by_hand(self):
        # So few do not slip: the three least are taken out, and what is left on either side is below ten.
        for items in ([(key, key) for key in range(10)], [(-key, key) for key in range(10)], drawn(10, 10 ** 6)):
            self.assertEqual(self.each_number(items), [3] * 10)

    def test_thirty_one_by_hand(self):
        # 10 are taken out of 31, the parting one is the tenth; then 7 of 21, 4 of 14, 3 of 10.
        wanted = [10] * 10 + [17] * 7 + [21] * 4 + [24] * 10
        self.assertEqual(self.each_number([(key, key) for key in range(31)]), wanted)
        self.assertEqual(self.each_number([(-key, key) for key in range(31)]), wanted)

    def test_keys_alike_by_hand(self):
        # Of ten, in trees of the ranks 1 and 3, are taken out the tickets 8, 9 and 0.
        self.assertEqual(self.each_number([(0, ticket) for ticket in range(10)]), [3] * 10)
        # Of eleven 10, 8 and 9: all ten others are less than 10.
        self.assertEqual(self.each_number([(0, ticket) for ticket in range(11)]), [6] * 10 + [3])

    def test_some_hundred(self):
        self.each_number(drawn(150, 5))
        for items in (drawn(100, 0), [(key, key) for key in range(200)], [(-key, key) for key in range(200)]):
            for number in range(0, len(items), 7):
                self.assertEqual(picked(items, number)[0], sorted(items)[number])

    def test_by_the_words(self):
        for many, span in ((10, 2), (40, 0), (64, 9), (97, 999), (300, 9), (300, 10 ** 12)):
            items = drawn(many, span)
            for number in (0, many // 2, many - 1):
                with self.subTest(many=many, span=span, number=number):
                    self.assertEqual(picked(items, number), by_the_words(items, number))
        items = [(-key, key) for key in range(300)]
        for number in (0, 150, 299):
            self.assertEqual(picked(items, number), by_the_words(items, number))

    def test_unlike_items_may_have_a_ticket_in_common(self):
        self.assertEqual(self.each_number([(key, 0) for key in range(10)]), [3] * 10)

    def test_no_place(self):
        for many in (0, 1, 9, 10, 50):
            items = drawn(many, 9)
            before = list(items)
            for number in (-1, -many - 1, many, many + 1, 10 ** 39, -10 ** 39):
                with self.subTest(many=many, number=number), self.assertRaises(NoPlace):
                    picked(items, number)
            self.assertEqual(items, before)


if __name__ == "__main__":
    unittest.main()
