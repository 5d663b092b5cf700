"""Points 2 and 19 of DOC.md: whether a thing is a web."""

import unittest

from heapwright.webs import is_web
from tests.things import FORTY_FIGURES, NO_NUMBERS, deep_things, within

ROWS = ((0, 1, 5), (0, 2, 0), (1, 0, 5), (2, 1, 10 ** 9))
WEB = (3, ROWS)


def pairs(many):
    return [(one, other, 1) for one in range(many) for other in range(many) if one != other]


class IsWebTest(unittest.TestCase):
    def no(self, thing):
        self.assertIs(is_web(thing), False)

    def yes(self, thing):
        self.assertIs(is_web(thing), True)

    def test_webs(self):
        self.yes(WEB)
        self.yes((2, ((0, 1, 0), (1, 0, 0))))

    def test_how_many_places(self):
        for many in (1, 2, 39, 40):
            self.yes((many, ()))
        for many in (0, -1, 41, FORTY_FIGURES, -FORTY_FIGURES) + NO_NUMBERS:
            self.no((many, ()))

    def test_how_many_rows(self):
        rows = tuple(pairs(15)[:201])
        self.yes((15, rows[:199]))
        self.yes((15, rows[:200]))
        self.no((15, rows))

    def test_lengths(self):
        for length in (0, 1, 10 ** 9 - 1, 10 ** 9):
            self.yes((2, ((0, 1, length),)))
        for length in (-1, 10 ** 9 + 1, FORTY_FIGURES, -FORTY_FIGURES) + NO_NUMBERS:
            self.no((2, ((0, 1, length),)))

    def test_places(self):
        self.yes((40, ((39, 38, 1),)))
        for place in (-1, 3, 40, FORTY_FIGURES, -FORTY_FIGURES) + NO_NUMBERS:
            self.no((3, ((place, 2, 1),)))
            self.no((3, ((2, place, 1),)))
        # True is like 1, but no number.
        self.no((3, ((0, True, 1),)))
        self.no((3, ((False, 1, 1),)))

    def test_a_row_from_a_place_to_itself(self):
        for place in (0, 1, 2):
            self.no((3, ((place, place, 1),)))

    def test_rows_that_do_not_rise(self):
        self.no((3, ROWS[::-1]))
        self.no((3, (ROWS[1], ROWS[0])))
        self.no((3, (ROWS[0], ROWS[2], ROWS[1], ROWS[3])))
        self.no((3, ((1, 0, 1), (0, 1, 2))))

    def test_a_pair_twice(self):
        self.no((3, ((0, 1, 5), (0, 1, 5))))
        self.no((3, ((0, 1, 5), (0, 1, 6))))
        self.no((3, ((0, 1, 6), (0, 1, 5))))
        self.yes((3, ((0, 1, 5), (1, 0, 5))))
        self.yes((3, ((0, 1, 5), (1, 0, 6))))

    def test_lists_for_tuples(self):
        self.no([3, ROWS])
        self.no((3, list(ROWS)))
        self.no((3, []))
        for place in range(4):
            self.no((3, ROWS[:place] + (list(ROWS[place]),) + ROWS[place + 1:]))

    def test_parts(self):
        self.no(())
        self.no((3,))
        self.no((3, ROWS, ()))
        self.no((ROWS, 3))
        self.no(ROWS)
        for row in ((), (0,), (0, 1), (0, 1, 5, 0), 5, None, "abc", "012", [0, 1, 5], ((0, 1, 5),)):
            self.no((3, (row,)))
            self.no((3, ROWS + (row,)))
        for rows in (None, 5, True, "", "abc", {}, (None,), ((),)):
            self.no((3, rows))

    def test_things_of_all_kinds(self):
        for thing in NO_NUMBERS + (0, 3, -3, FORTY_FIGURES):
            self.no(thing)
        for thing in deep_things():
            self.no(thing)
        for core in ((), [], 5, True, None, "a", WEB):
            self.no(within(20, lambda x: (3, (x,)), core))
            self.no((3, within(38, lambda x: (x,), core)))
            self.no((3, ((0, 1, within(37, lambda x: (x,), core)),)))


if __name__ == "__main__":
    unittest.main()
