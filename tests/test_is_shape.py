"""Points 2, 4 and 5 of DOC.md: what is a shape of each kind, and what is none."""

import itertools
import unittest

from heapwright.items import KINDS
from heapwright.shapes import is_shape
from tests.things import FORTY_FIGURES, NO_NUMBERS, deep_things, within
from tests.trees import MOST, c, count_shape, deepest, item, k, one_chain, other_chain, s

BOUND = 10 ** 12
LAST_TICKET = 10 ** 6

LEFT = (
    (), s(0), s(5), s(1, s(2)), s(1, s(2), s(3)), s(1, s(3), s(2)), s(1, s(2, s(3))), s(1, s(2, s(3)), s(4)),
    s(1, s(3), s(2, s(4))), s(1, s(2, s(4), s(5)), s(3)), s(1, s(2, s(4), s(5)), s(3, s(6), s(7))),
    s(-BOUND, s(BOUND, ticket=0), ticket=LAST_TICKET),
)
# No shapes of left: somewhere the rank of the one side is less than that of the other side.
NOT_LEFT = (
    s(1, (), s(2)), s(1, s(2, (), s(3))), s(1, s(2, (), s(3)), s(4)), s(1, s(4), s(2, (), s(3))),
    s(1, s(2), s(3, s(4), s(5))), s(1, s(2, s(6)), s(3, s(4), s(5))), s(1, (), s(2, s(3))),
    s(1, s(2, s(4), s(5)), s(3, (), s(6))),
    # The one side has more items, and is higher, but of a lesser rank.
    s(1, s(2, s(6, s(7, s(8)))), s(3, s(4), s(5))),
)
SKEW = LEFT + NOT_LEFT
PAIR = (
    (), c(0), c(5), c(1, c(2)), c(1, c(3), c(2)), c(1, c(2), c(3), c(4)), c(1, c(2, c(3))),
    c(1, c(2, c(5)), c(3), c(4, c(7), c(6))), c(-BOUND, c(BOUND, ticket=0), ticket=LAST_TICKET),
)
COUNT = (
    (), (c(0),), (c(5),), (c(1, c(2)),), (c(9), c(1, c(2))), (c(1), c(2, c(3))), (c(1, c(3), c(2, c(4))),),
    (c(8), c(1, c(3), c(2, c(4)))), (c(5, c(6)), c(1, c(3), c(2, c(4)))),
    (c(7), c(5, c(6)), c(1, c(3), c(2, c(4)))), (c(1, c(2), c(3, c(4)), c(5, c(6), c(7, c(8)))),),
    (c(-BOUND, c(BOUND, ticket=0), ticket=LAST_TICKET),),
)
CUT = (
    (), (k(0),), (k(5),), (k(2), k(1)), (k(1), k(2), k(3)), (k(1, k(2)),), (k(1, k(2, marked=True)),),
    (k(3, k(4)), k(1, k(2))), (k(1, k(2), k(3, k(4))),), (k(1, k(2), k(3, marked=True)),),
    (k(1, k(2, k(3, k(4, marked=True)), marked=True)),), (k(1, k(2, k(5), k(6, k(7))), k(3, k(4))),),
    (k(5, k(6)), k(1, k(2, k(3, marked=True)), k(4, k(7))), k(8)),
    (k(-BOUND, k(BOUND, ticket=0), ticket=LAST_TICKET),),
)
SHAPES = {"left": LEFT, "skew": SKEW, "pair": PAIR, "count": COUNT, "cut": CUT}

NO_ITEMS = NO_NUMBERS + (
    0, 5, [5, 5], (5,), (5, 5, 5), (True, 5), (5, True), (False, 5), (5, False), (None, 5), (5, None), ("5", 5),
    (5, "5"), (BOUND + 1, 5), (-BOUND - 1, 5), (5, -1), (5, LAST_TICKET + 1), (FORTY_FIGURES, 5), (5, FORTY_FIGURES),
    ((5, 5), 5), (5, (5, 5)), [(5, 5)], ((5, 5),), ([5], 5), (5, [5]),
)


def is_pair_of_numbers(thing):
    return len(thing) == 2 and not isinstance(thing[0], tuple)


def tuples_of(thing, path=()):
    """Each tuple within a shape, items too, with the path that leads to it."""
    if isinstance(thing, tuple):
        yield path, thing
        for place, part in enumerate(thing):
            yield from tuples_of(part, path + (place,))


def items_in(shape):
    return [(path, part) for path, part in tuples_of(shape) if part and is_pair_of_numbers(part)]


def trees_in(shape):
    found = [(path, part) for path, part in tuples_of(shape) if part and isinstance(part[0], tuple)]
    return [(path, part) for path, part in found if part[0] and is_pair_of_numbers(part[0])]


def put_at(thing, path, new):
    """The thing with something new where the path leads."""
    if not path:
        return new
    return thing[:path[0]] + (put_at(thing[path[0]], path[1:], new),) + thing[path[0] + 1:]


class Told(unittest.TestCase):
    def told(self, kind, thing, wanted):
        """Check that True or False itself is told, twice, and that thing stays as it was."""
        before = repr(thing)
        for time in ("first", "again"):
            with self.subTest(kind, thing=thing, time=time):
                self.assertIs(is_shape(kind, thing), wanted)
        self.assertEqual(repr(thing), before)

    def all_told(self, kind, things, wanted):
        for thing in things:
            self.told(kind, thing, wanted)


class FormTest(Told):
    def test_no_items_and_small_shapes(self):
        for kind in KINDS:
            self.all_told(kind, SHAPES[kind], True)

    def test_shapes_of_other_kinds(self):
        for kind, other in itertools.permutations(KINDS, 2):
            for shape in SHAPES[other]:
                self.told(kind, shape, shape in SHAPES[kind])

    def test_what_is_a_shape_of_left_is_one_of_skew_and_else_kinds_share_none_but_nothing(self):
        for one, other in itertools.permutations(KINDS, 2):
            shared = [shape for shape in SHAPES[one] if is_shape(other, shape)]
            alike = {one, other} == {"left", "skew"}
            self.assertEqual(shared, list(LEFT) if alike else [()], (one, other))

    def test_lists_in_the_place_of_tuples(self):
        for kind in KINDS:
            for shape in SHAPES[kind]:
                for path, part in tuples_of(shape):
                    self.told(kind, put_at(shape, path, list(part)), False)

    def test_trees_of_too_few_or_too_many_parts(self):
        for kind in KINDS:
            for shape in SHAPES[kind]:
                for path, tree in trees_in(shape):
                    for parts in (tree[:-1], tree[:1], tree + ((),), tree + (tree[-1],), tree + (None,),
                                  tree + (False,), tree + ((), ()), (tree,), tree[1:]):
                        self.told(kind, put_at(shape, path, parts), False)

    def test_a_tree_beside_the_parts_it_should_stand_in(self):
        self.all_told("pair", (((1, 1), c(2)), (c(1),), ((1, 1), (2, 2)), ((1, 1), ((2, 2),)), (c(1), c(2))), False)
        self.all_told("count", (c(1), ((1, 1), c(2)), ((c(1),),), (c(1), (c(2, c(3)),))), False)
        self.all_told("cut", (k(1), (((1, 1), False, k(2)),), ((k(1),),), (k(1), (k(2),))), False)
        for kind in ("left", "skew"):
            self.all_told(kind, ((s(1),), ((1, 1), (s(2),), ()), ((1, 1), s(2), (s(3),)), ((1, 1),), (s(1), s(2))), False)

    def test_nothing_among_trees_is_no_tree(self):
        self.all_told("pair", (((),), c(1, ()), c(1, c(2), ()), c(1, (), c(2)), c(1, c(2, ()))), False)
        self.all_told("count", (((),), ((), ()), (c(1, ()),), (c(1), ()), ((), c(1, c(2)))), False)
        self.all_told("cut", (((),), ((), ()), (k(1, ()),), (k(1), ()), ((), k(1)), (k(1, k(2, ())),)), False)
        for kind in ("left", "skew"):
            self.all_told(kind, (((),), ((), (), ()), s(1, ((), (), ())), s(1, ((),))), False)

    def test_no_sides(self):
        for kind in ("left", "skew"):
            for thing in NO_NUMBERS + (0, 1, (1, 1), [s(2)], (s(2),), c(2), k(2), list(s(2))):
                if thing != ():
                    self.told(kind, ((1, 1), thing, ()), False)
                    self.told(kind, s(1, s(3), thing), False)
                    self.told(kind, s(1, s(3, thing)), False)

    def test_no_children(self):
        for thing in NO_NUMBERS + (0, 1, (2, 2), [c(2)], c(2), k(2)):
            if thing != ():
                self.told("pair", ((1, 1), thing), False)
                self.told("pair", c(1, ((2, 2), thing)), False)
                self.told("count", (((1, 1), thing),), False)
                self.told("cut", (((1, 1), False, thing),), False)
                self.told("cut", (k(1, ((2, 2), True, thing)),), False)

    def test_an_item_that_is_none_at_any_place(self):
        for kind in KINDS:
            for shape in SHAPES[kind]:
                for path, own in items_in(shape):
                    for thing in NO_ITEMS:
                        self.told(kind, put_at(shape, path, thing), False)

    def test_things_of_all_kinds(self):
        for kind in KINDS:
            for thing in NO_NUMBERS + NO_ITEMS + (FORTY_FIGURES, -FORTY_FIGURES, "left", kind, KINDS, list(KINDS)):
                self.told(kind, thing, thing == () and thing != [])

    def test_things_forty_within_one_another(self):
        for kind in KINDS:
            for thing in deep_things():
                self.told(kind, thing, thing == ())

    def test_things_that_look_like_trees_as_deep_as_they_go(self):
        for core in ((), [], None, 0, "", "abc", (1, 2), [(1, 2), (), ()], FORTY_FIGURES):
            for depth in (1, 5, 38):
                for kind in ("left", "skew"):
                    self.told(kind, within(depth, lambda x: ((1, 1), x, ()), core), core == () and depth == 1)
                self.told("pair", within(depth, lambda x: ((1, 1), (x,)), core), False)
                self.told("count", within(depth, lambda x: (((1, 1), x),), core), core == () and depth == 1)
                self.told("cut", within(depth, lambda x: (((1, 1), False, x),), core), core == () and depth == 1)

    def test_one_tree_at_very_many_places(self):
        # Each is 40 deep, and would be looked through for ever if nothing stopped at a ticket met again.
        sided, tied, cut = (), (), ()
        for key in range(38, 0, -1):
            sided = s(key, sided, sided)
            tied = (c(key, *tied, *tied),)
            cut = (k(key, *cut, *cut),)
        for kind in ("left", "skew"):
            self.assertIs(is_shape(kind, sided), False)
        self.assertIs(is_shape("pair", tied[0]), False)
        self.assertIs(is_shape("count", tied), False)
        self.assertIs(is_shape("cut", cut), False)


class ItemsTest(Told):
    def test_a_ticket_twice(self):
        for kind in KINDS:
            for shape in SHAPES[kind]:
                for (path, one), (other_path, other) in itertools.permutations(items_in(shape), 2):
                    self.told(kind, put_at(shape, path, (one[0], other[1])), False)

    def test_an_item_twice(self):
        self.told("left", s(1, s(1)), False)
        self.told("skew", s(1, s(2), s(2)), False)
        self.told("pair", c(1, c(2), c(3, c(2))), False)
        self.told("count", (c(2), c(1, c(2))), False)
        self.told("cut", (k(1), k(2), k(1)), False)

    def test_a_ticket_twice_far_apart(self):
        twice = 17
        left = s(0, one_chain(range(100, 140)), one_chain(range(200, 240)))
        tied = [c(100, *[c(key) for key in range(101, 140)]), c(200, *[c(key) for key in range(201, 240)])]
        cut = [k(100, k(101)), *[k(key) for key in range(102, 240)], k(300, k(301))]
        for kind, shape in (("left", left), ("skew", left), ("pair", c(0, *tied)), ("cut", tuple(cut)),
                            ("count", count_shape(range(100, 355)))):
            found = items_in(shape)
            first, last = found[1], found[-1]
            self.told(kind, shape, True)
            apart = put_at(put_at(shape, first[0], (first[1][0], twice)), last[0], (last[1][0], twice + 1))
            self.told(kind, apart, True)
            alike = put_at(apart, last[0], (last[1][0], twice))
            self.told(kind, alike, False)

    def standing(self, low, high):
        """Shapes of each kind in which high stands directly in low, at the top and further down."""
        for place in (0, 1):
            sides = [(), ()]
            sides[place] = (high, (), ())
            if place == 0:
                yield "left", (low, *sides)
                yield "left", s(-5, (low, *sides), s(0, ticket=900), ticket=901)
            yield "skew", (low, *sides)
            yield "skew", s(-5, s(0, ticket=900), (low, *sides), ticket=901)
        yield "left", (low, s(90), (high, (), ()))
        yield "pair", (low, ((high, ()),))
        yield "pair", c(-5, c(0, ticket=900), (low, (c(90), (high, ()), c(91))), ticket=901)
        yield "count", ((low, ((high, ()),)),)
        yield "count", (c(0, ticket=900), c(-5, c(0, ticket=902), (low, ((high, ()),)), ticket=901))
        for marked in (True, False):
            yield "cut", ((low, False, ((high, marked, ()),)),)
            yield "cut", (k(0, ticket=900), k(-5, (low, marked, ((high, marked, ()), k(90, k(91)))), ticket=901))

    def test_no_item_is_less_than_that_of_the_tree_it_stands_in(self):
        for low, high in (((7, 3), (8, 4)), ((7, 4), (8, 3)), ((7, 3), (7, 4)), ((-2, 3), (-1, 2)), ((-1, 8), (0, 7)),
                          ((7, 0), (7, LAST_TICKET))):
            for kind, shape in self.standing(low, high):
                self.told(kind, shape, True)
            for kind, shape in self.standing(high, low):
                self.told(kind, shape, False)

    def test_an_item_between_that_of_its_tree_and_the_one_above(self):
        self.told("left", s(1, s(5, s(3))), False)
        self.told("skew", s(1, s(5, (), s(3))), False)
        self.told("pair", c(1, c(2), c(5, c(3))), False)
        self.told("count", (c(1, c(2), c(5, c(3))),), False)
        self.told("cut", (k(1, k(5, k(3))),), False)

    def test_trees_beside_one_another_need_no_order(self):
        self.told("left", s(1, s(9), s(2)), True)
        self.told("skew", s(1, s(9), s(2)), True)
        self.told("pair", c(1, c(9), c(2), c(5)), True)
        self.told("count", (c(9), c(1, c(2)), c(3, c(8), c(4, c(7)))), True)
        self.told("cut", (k(9), k(1), k(5), k(3, k(8), k(4, k(7)))), True)


class RanksTest(Told):
    def test_left_wants_no_lesser_rank_on_the_one_side(self):
        self.all_told("left", NOT_LEFT, False)
        self.all_told("skew", NOT_LEFT, True)

    def test_count_wants_children_of_ranks_from_0_on_in_order(self):
        zero, one, two = c(2), c(3, c(4)), c(5, c(6), c(7, c(8)))
        self.told("count", (c(1, zero, one, two),), True)
        for size in (1, 2, 3):
            for children in itertools.permutations((zero, one, two), size):
                self.told("count", (c(1, *children),), children == (zero, one, two)[:size])
        for children in ((zero, c(9)), (zero, one, c(9)), (zero, one, c(9, c(10))), (one, two), (zero, one, one),
                         (zero, one, two, c(9)), (c(9), c(10), c(11))):
            self.told("count", (c(1, *children),), False)

    def test_count_wants_it_further_down_too(self):
        self.told("count", (c(1, c(2), c(3, c(4)), c(5, c(7, c(8)), c(6))),), False)
        self.told("count", (c(1, c(2), c(3, c(4)), c(5, c(6), c(7))),), False)

    def test_count_wants_trees_of_unlike_ranks_rising(self):
        trees = (c(1), c(2, c(3)), c(4, c(5), c(6, c(7))))
        for size in (1, 2, 3):
            for some in itertools.permutations(trees, size):
                self.told("count", some, list(some) == [tree for tree in trees if tree in some])
        self.all_told("count", ((c(1), c(2)), (c(8), *trees), (*trees, c(8)), (c(8, c(9)), c(2, c(3))),
                                (c(1), c(2, c(3)), c(8, c(9)))), False)

    def test_count_wants_no_order_of_the_items_of_its_trees(self):
        self.all_told("count", ((c(1), c(2, c(3))), (c(9), c(2, c(3)))), True)

    def test_cut_wants_unmarked_trees_in_a_shape(self):
        for many in (1, 2, 3):
            for marks in itertools.product((False, True), repeat=many):
                shape = tuple(k(key, marked=marked) for key, marked in enumerate(marks))
                self.told("cut", shape, not any(marks))
        self.told("cut", (k(1, k(2, k(3)), marked=True),), False)
        self.told("cut", (k(5), k(1, k(2), marked=True)), False)

    def test_cut_wants_so_many_children_of_the_i_th_child(self):
        for many in range(1, 7):
            for number in range(1, many + 1):
                for marked, few in ((False, number - 1), (True, number - 2)):
                    for own in range(max(few - 2, 0), few + 3):
                        shape = (self.full(many, number, own, marked),)
                        self.told("cut", shape, own >= few)
                        self.told("cut", (k(0, shape[0]),), own >= few)

    def full(self, many, number, own, marked):
        """A tree of many children, each with just enough of them, but the one of a number, which has own ones."""
        keys = iter(range(1, 1000))

        def with_children(wanted, is_marked):
            key = next(keys)
            return k(key, *[with_children(place, False) for place in range(wanted)], marked=is_marked)

        key = next(keys)
        children = [with_children(own, marked) if place + 1 == number else with_children(place, False)
                    for place in range(many)]
        return k(key, *children)

    def test_cut_lets_all_children_be_marked_that_have_just_enough(self):
        self.told("cut", (k(1, k(2, marked=True), k(3, marked=True), k(4, k(5), marked=True)),), True)
        self.told("cut", (k(1, k(2, marked=True), k(3, marked=True), k(4, marked=True)),), False)
        self.told("cut", (k(1, k(2, marked=True), k(3)),), False)

    def test_what_stands_in_the_place_of_marked_is_a_truth(self):
        for thing in (0, 1, None, "", "True", "False", (), [], (True,), [False], 2, -1):
            self.told("cut", (((1, 1), thing, ()),), False)
            self.told("cut", (k(1, ((2, 2), thing, ())),), False)
            self.told("cut", (k(1, k(2, ((3, 3), thing, ()))),), False)


def side_forms(many):
    """All forms of trees with sides and many items, each made by its keys: a function of an iterator."""
    if many == 0:
        return [lambda keys: ()]
    forms = []
    for few in range(many):
        for one, other in itertools.product(side_forms(few), side_forms(many - 1 - few)):
            forms.append(lambda keys, one=one, other=other: s(next(keys), one(keys), other(keys)))
    return forms


def forests(many):
    """All forms of rows of trees with children, many in all: nested tuples."""
    if many == 0:
        return [()]
    return [(first,) + rest for few in range(many)
            for first, rest in itertools.product(forests(few), forests(many - 1 - few))]


def counted(forest, keys):
    return tuple([c(next(keys), *counted(below, keys)) for below in forest])


def cut_so(forest, keys, marks):
    return tuple([k(next(keys), *cut_so(below, keys, marks), marked=next(marks)) for below in forest])


def children_suffice(tree):
    """What point 5 says of the children of cut, in the plainest way."""
    item, marked, children = tree
    return all(len(child[2]) >= number - (2 if child[1] else 1) and children_suffice(child)
               for number, child in enumerate(children, 1))


class AllFormsTest(unittest.TestCase):
    def test_so_many_forms_of_left_and_skew(self):
        left, skew = (1, 1, 1, 2, 4, 8, 17, 38), (1, 1, 2, 5, 14, 42, 132, 429)
        for many in range(8):
            trees = [form(iter(range(many))) for form in side_forms(many)]
            self.assertEqual(sum(is_shape("left", tree) for tree in trees), left[many])
            self.assertEqual(sum(is_shape("skew", tree) for tree in trees), skew[many])

    def test_so_many_forms_of_pair_and_count(self):
        # A row of trees is a shape of pair where it is put into one tree.
        for many in range(8):
            rows = [counted(forest, iter(range(1, many + 1))) for forest in forests(many)]
            self.assertTrue(all(is_shape("pair", c(0, *row)) for row in rows))
            found = [row for row in rows if is_shape("count", row)]
            self.assertEqual(len(found), 1)
            self.assertEqual([len(tree[1]) for tree in found[0]], [at for at in range(3) if many >> at & 1])

    def test_all_forms_of_cut(self):
        for many in range(6):
            for forest in forests(many):
                for marks in itertools.product((False, True), repeat=many):
                    row = cut_so(forest, iter(range(many)), iter(marks))
                    wanted = all(not tree[1] and children_suffice(tree) for tree in row)
                    self.assertIs(is_shape("cut", row), wanted, row)


class DeepTest(unittest.TestCase):
    def test_three_hundred_items_one_within_another(self):
        for kind in KINDS:
            for shape in deepest(kind, range(MOST)):
                self.assertIs(is_shape(kind, shape), True)

    def test_a_fault_at_the_very_bottom(self):
        keys = list(range(MOST - 1))
        for kind in ("left", "skew", "pair", "cut"):
            # Lesser than all above it, and no key.
            for last in (-1, BOUND + 1):
                for shape in deepest(kind, keys + [last]):
                    self.assertIs(is_shape(kind, shape), False)
            for shape in deepest(kind, [7] + keys):
                self.assertIs(is_shape(kind, shape), False)

    def test_left_wants_no_chain_of_other_sides(self):
        self.assertIs(is_shape("left", other_chain(range(MOST))), False)
        self.assertIs(is_shape("left", s(0, one_chain(range(1, MOST)), s(MOST))), True)
        self.assertIs(is_shape("left", s(0, s(MOST), one_chain(range(1, MOST)))), True)

    def test_three_hundred_trees_beside_one_another(self):
        row = range(1, MOST)
        self.assertIs(is_shape("pair", c(0, *[c(key) for key in row])), True)
        self.assertIs(is_shape("cut", tuple([k(key) for key in row])), True)
        self.assertIs(is_shape("cut", (k(0, *[k(key) for key in row]),)), False)
        self.assertIs(is_shape("count", tuple([c(key) for key in row])), False)

    def test_the_wider_bounds_of_items(self):
        self.assertIs(is_shape("left", (item(-BOUND, LAST_TICKET), (item(BOUND, 0), (), ()), ())), True)
        self.assertIs(is_shape("left", (item(-BOUND - 1, LAST_TICKET), (item(BOUND, 0), (), ()), ())), False)
        self.assertIs(is_shape("left", (item(-BOUND, LAST_TICKET + 1), (item(BOUND, 0), (), ()), ())), False)


if __name__ == "__main__":
    unittest.main()
