"""Point 19 of DOC.md: papers of shortest roads, right ones, and each condition broken alone."""

import unittest

from heapwright.webs import is_paper, is_web
from tests.things import FORTY_FIGURES, NO_NUMBERS, deep_things

WEB = (5, ((0, 1, 4), (0, 2, 1), (1, 3, 1), (2, 1, 2), (2, 3, 5), (3, 0, 7)))
LENGTHS = [0, 3, 1, 4, None]
ORDER = [0, 2, 1, 3]


def changed(row, place, part):
    return row[:place] + [part] + row[place + 1:]


class PapersTest(unittest.TestCase):
    def yes(self, web, start, lengths, order):
        self.assertIs(is_web(web), True)
        self.assertIs(is_paper(web, start, lengths, order), True)

    def no(self, web, start, lengths, order):
        self.assertIs(is_web(web), True)
        self.assertIs(is_paper(web, start, lengths, order), False)

    def test_right_papers(self):
        self.yes(WEB, 0, LENGTHS, ORDER)
        self.yes(WEB, 4, [None, None, None, None, 0], [4])
        self.yes((1, ()), 0, [0], [0])
        self.yes((3, ()), 1, [None, 0, None], [1])
        # Any order will do in which what makes a length is ahead; it need not rise by lengths.
        fan = (3, ((0, 1, 1), (0, 2, 9)))
        self.yes(fan, 0, [0, 1, 9], [0, 1, 2])
        self.yes(fan, 0, [0, 1, 9], [0, 2, 1])

    def test_lengths_may_be_great(self):
        rows = tuple([(place, place + 1, 10 ** 9) for place in range(39)])
        self.yes((40, rows), 0, [place * 10 ** 9 for place in range(40)], list(range(40)))

    def test_the_start_has_another_length(self):
        self.no(WEB, 0, [1, 4, 2, 5, None], ORDER)
        self.no((1, ()), 0, [1], [0])
        self.no((1, ()), 0, [None], [])
        self.no((1, ()), 0, [None], [0])

    def test_a_row_to_a_place_without_a_length(self):
        self.no(WEB, 0, [0, 3, 1, None, None], [0, 2, 1])
        self.no((2, ((0, 1, 5),)), 0, [0, None], [0])
        # The other way it does no harm.
        self.yes((2, ((1, 0, 5),)), 0, [0, None], [0])

    def test_a_length_too_great(self):
        # Each is just made by a row from a place ahead, but another row makes less of it.
        web = (3, ((0, 1, 5), (0, 2, 1), (2, 1, 1)))
        self.yes(web, 0, [0, 2, 1], [0, 2, 1])
        self.no(web, 0, [0, 5, 1], [0, 2, 1])
        self.no(web, 0, [0, 5, 1], [0, 1, 2])
        self.no(WEB, 0, [0, 3, 1, 6, None], ORDER)

    def test_a_length_too_small(self):
        for length in (0, 1, 2):
            self.no(WEB, 0, changed(LENGTHS, 1, length), ORDER)
        self.no((2, ((0, 1, 1),)), 0, [0, 0], [0, 1])
        self.no((2, ()), 0, [0, 0], [0, 1])

    def test_an_order_that_lacks_a_place(self):
        self.no(WEB, 0, LENGTHS, [0, 2, 1])
        self.no((3, ((0, 1, 1), (0, 2, 1))), 0, [0, 1, 1], [0, 2])
        self.no(WEB, 0, LENGTHS, [])
        self.no(WEB, 0, LENGTHS, [0])

    def test_an_order_that_has_a_place_twice(self):
        self.no(WEB, 0, LENGTHS, ORDER + [3])
        self.no(WEB, 0, LENGTHS, ORDER + [0])
        self.no(WEB, 0, LENGTHS, [0, 2, 2, 1, 3])
        self.no(WEB, 0, LENGTHS, [0] + ORDER)
        self.no(WEB, 0, LENGTHS, [0, 2, 1, 1])

    def test_an_order_that_has_a_place_without_a_length(self):
        self.no(WEB, 0, LENGTHS, ORDER + [4])
        for place in (-1, 5, -5, FORTY_FIGURES, -FORTY_FIGURES):
            self.no(WEB, 0, LENGTHS, ORDER + [place])
            self.no(WEB, 0, LENGTHS, changed(ORDER, 3, place))

    def test_an_order_that_does_not_begin_with_the_start(self):
        web = (2, ((0, 1, 0), (1, 0, 0)))
        self.yes(web, 0, [0, 0], [0, 1])
        self.yes(web, 1, [0, 0], [1, 0])
        self.no(web, 0, [0, 0], [1, 0])
        self.no(web, 1, [0, 0], [0, 1])
        self.no(WEB, 2, LENGTHS, ORDER)

    def test_a_place_ahead_of_the_one_that_makes_its_length(self):
        for order in ([0, 1, 2, 3], [0, 2, 3, 1], [0, 3, 2, 1]):
            self.no(WEB, 0, LENGTHS, order)
        # Each of the two makes the other's length, but none is made from the start.
        self.no((3, ((1, 2, 0), (2, 1, 0))), 0, [0, 7, 7], [0, 1, 2])
        self.no((3, ((1, 2, 0), (2, 1, 0))), 0, [0, 7, 7], [0, 2, 1])

    def test_a_start_that_is_no_place(self):
        for start in (-1, -5, 5, 6, FORTY_FIGURES, -FORTY_FIGURES):
            self.no(WEB, start, LENGTHS, ORDER)
            self.no(WEB, start, LENGTHS, [start] + ORDER[1:])
        self.no((1, ()), -1, [0], [0])
        self.no((1, ()), -1, [0], [-1])
        self.no((1, ()), 1, [0], [1])

    def test_lists_of_another_count(self):
        self.no(WEB, 0, LENGTHS[:4], ORDER)
        self.no(WEB, 0, LENGTHS + [None], ORDER)
        self.no(WEB, 0, LENGTHS + [7], ORDER)
        self.no(WEB, 0, [], ORDER)
        self.no(WEB, 0, [], [])

    def test_tuples_for_lists(self):
        self.no(WEB, 0, tuple(LENGTHS), ORDER)
        self.no(WEB, 0, LENGTHS, tuple(ORDER))

    def test_truths_for_numbers(self):
        self.no(WEB, 0, changed(LENGTHS, 0, False), ORDER)
        self.no(WEB, 0, changed(LENGTHS, 2, True), ORDER)
        self.no(WEB, 0, LENGTHS, changed(ORDER, 0, False))
        self.no(WEB, 0, LENGTHS, changed(ORDER, 2, True))
        # Where no row looks at the length.
        self.no((2, ()), 0, [False, None], [0])

    def test_things_in_the_lists(self):
        for thing in (-1, -FORTY_FIGURES, "0", "a", [], [0], (), (0,), [[]]):
            for place in range(5):
                self.no(WEB, 0, changed(LENGTHS, place, thing), ORDER)
        for thing in (None, -1, 4, "0", "a", [], [0], (), (0,), [[]]):
            for place in range(4):
                self.no(WEB, 0, LENGTHS, changed(ORDER, place, thing))
            self.no(WEB, 0, LENGTHS, ORDER + [thing])
        self.no(WEB, 0, changed(LENGTHS, 0, None), ORDER)
        self.no(WEB, 0, changed(LENGTHS, 4, 9), ORDER)

    def test_things_of_all_kinds(self):
        for thing in NO_NUMBERS + (0, 4, FORTY_FIGURES):
            self.no(WEB, 0, thing, ORDER)
            self.no(WEB, 0, LENGTHS, thing)
            self.no(WEB, 0, thing, thing)
        for thing in deep_things():
            # Of a web of one place [0] is right, as lengths and as order.
            self.assertIs(is_paper((1, ()), 0, thing, [0]), thing == [0] and thing[0] is not False)
            self.assertIs(is_paper((1, ()), 0, [0], thing), thing == [0] and thing[0] is not False)
            self.no(WEB, 0, thing, thing)

    def test_what_is_handed_in_stays(self):
        lengths, order = list(LENGTHS), list(ORDER)
        self.yes(WEB, 0, lengths, order)
        self.no(WEB, 1, lengths, order)
        self.assertEqual((lengths, order), (LENGTHS, ORDER))


if __name__ == "__main__":
    unittest.main()
