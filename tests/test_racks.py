"""[12]: racks, their polynomials and their things."""

import unittest

from boughswap.errors import NoRack, NoThing
from boughswap.kinds import Kind
from boughswap.racks import has_trees, is_rack, is_thing, rack_poly, trees_of
from helping import (
    ALL_MAKERS, FIVE, GREAT, LINES, Checks, Forest, Sulky, joined, no_racks, no_things, some_kinds, tip_fork,
)

TREE = (1, 0, 1, 0, 0)


class RackTest(Checks):

    def test_racks(self):
        for rack in ((), (0,), (200,), (0, 200, 3), (7,) * 12, tuple(range(201)), (0,) * 4000, (200,) * 4000):
            self.tells_both(True, is_rack, thing=rack)

    def test_what_is_none(self):
        for thing in no_racks():
            with self.subTest(repr(thing)[:60]):
                self.tells_both(False, is_rack, thing=thing)

    def test_truths_and_other_sorts_among_the_forms(self):
        for form in (True, False, 1.0, "1", None, (1,), [1], -1, 201, GREAT, Sulky()):
            for rack in ((form,), (1, form), (form, 1), (1, form, 1)):
                self.tells(False, is_rack(rack))

    def test_polynomials(self):
        self.tells((), rack_poly(()))
        self.tells((1,), rack_poly((0,)))
        self.tells((3,), rack_poly((0, 0, 0)))
        self.tells((0, 1), rack_poly((1,)))
        self.tells((0, 2, 0, 1), rack_poly((1, 3, 1)))
        self.tells((1, 0, 3, 1), rack_poly((2, 0, 2, 3, 2)))
        self.tells((0,) * 200 + (4000,), rack_poly((200,) * 4000))
        self.tells((1,) * 201, rack_poly(tuple(range(200, -1, -1))))
        self.tells_both((0, 0, 1), rack_poly, rack=(2,))

    def test_has_trees(self):
        for rack in ((), (0,), (0,) * 4000):
            self.tells_both(False, has_trees, rack=rack)
        for rack in ((1,), (0, 1), (200, 0), (0, 0, 3, 0), (0,) * 3999 + (1,)):
            self.tells_both(True, has_trees, rack=rack)

    def test_no_rack(self):
        for rack in no_racks():
            with self.subTest(repr(rack)[:60]):
                self.refused_both(NoRack, rack_poly, rack=rack)
                self.refused_both(NoRack, has_trees, rack=rack)


class ThingTest(Checks):

    def test_small_things(self):
        for makers in ALL_MAKERS:
            kind = Kind(list(makers))
            forest = Forest(makers)
            for rack in ((1,), (0,), (0, 2, 1), (3, 0, 1)):
                for size in range(6):
                    things = forest.things(rack, size)
                    for thing in things:
                        self.tells(True, is_thing(kind, rack, thing))
                        row = thing[1]
                        trees = trees_of(kind, rack, thing)
                        self.assertEqual(rack[thing[0]], len(trees))
                        self.tells(row, joined(trees))
                        for tree in trees:
                            self.assertIn(tree, forest.trees(len(tree)))
                    for place, many in enumerate(rack):
                        for other in range(4):
                            for parts in forest.rows(other, size):
                                told = other == many
                                self.tells(told, is_thing(kind, rack, (place, joined(parts))))

    def test_trees_of(self):
        kind = tip_fork()
        self.tells([], trees_of(kind, (1, 0), (1, ())))
        self.tells([TREE], trees_of(kind, (1, 0), (0, TREE)))
        self.tells([(0,), TREE, (0,)], trees_of(kind, (0, 1, 3), (2, (0,) + TREE + (0,))))
        self.tells([TREE] * 200, trees_of(kind, (200,), (0, TREE * 200)))

    def test_each_list_told_is_a_new_one(self):
        kind = tip_fork()
        trees_of(kind, (2,), (0, (0, 0))).append((0,))
        self.tells([(0,), (0,)], trees_of(kind, (2,), (0, (0, 0))))

    def test_a_tree_more_or_less(self):
        kind = tip_fork()
        for many in range(4):
            for other in range(5):
                thing = (0, TREE * other)
                self.tells(many == other, is_thing(kind, (many,), thing))
                if many != other:
                    self.refused(NoThing, trees_of, kind, (many,), thing)

    def test_another_place(self):
        kind = tip_fork()
        rack = (1, 2, 0)
        for place in (-3, -2, -1, 1, 2, 3, 4, GREAT, True, False, None, "0", 0.0, (0,)):
            self.tells(False, is_thing(kind, rack, (place, TREE)))
            self.refused(NoThing, trees_of, kind, rack, (place, TREE))
        self.tells(True, is_thing(kind, rack, (0, TREE)))
        self.tells(True, is_thing(kind, rack, (1, TREE + (0,))))
        self.tells(True, is_thing(kind, rack, (2, ())))
        self.tells(False, is_thing(kind, rack, (True, TREE + (0,))))

    def test_near_misses(self):
        kind = tip_fork()
        rack = (1, 2, 0)
        bad = [(0, list(TREE)), [0, TREE], (0, TREE, 0), (0,), (0, TREE[:-1]), (0, TREE + (0,)), (0, (TREE,)),
               (0, (2,)),
               (0, (True, 0, 0)), (0, (-1,)), (0, ()), (2, (0,)), (2, []), (2, None), (1, ((0,), (0,))), (TREE, 0),
               TREE]
        for thing in bad:
            with self.subTest(repr(thing)):
                self.tells(False, is_thing(kind, rack, thing))
                self.refused(NoThing, trees_of, kind, rack, thing)

    def test_a_row_of_another_kind(self):
        self.tells(False, is_thing(Kind(list(LINES)), (1,), (0, TREE)))
        self.tells(True, is_thing(Kind(list(LINES)), (1,), (0, (0, 2))))
        self.tells(False, is_thing(tip_fork(), (1,), (0, (0, 2))))
        self.tells(True, is_thing(Kind(list(FIVE)), (1,), (0, (1, 0))))

    def test_other_sorts(self):
        for rack in ((), (1,), (0,), (1, 1, 0)):
            for thing in no_things():
                with self.subTest(repr(thing)):
                    self.tells(False, is_thing(tip_fork(), rack, thing))
                    self.refused(NoThing, trees_of, tip_fork(), rack, thing)

    def test_an_empty_rack_has_no_things(self):
        for thing in ((0, ()), (0, (0,)), (-1, ())):
            self.tells(False, is_thing(tip_fork(), (), thing))
            self.refused(NoThing, trees_of, tip_fork(), (), thing)

    def test_no_rack_ahead_of_no_thing(self):
        kind = tip_fork()
        for rack in no_racks():
            for thing in ((0, (0,)), None, Sulky(), (0, ())):
                with self.subTest(rack=repr(rack)[:60], thing=repr(thing)):
                    self.refused(NoRack, is_thing, kind, rack, thing)
                    self.refused(NoRack, trees_of, kind, rack, thing)

    def test_by_names(self):
        kind = tip_fork()
        self.tells_both(True, is_thing, kind=kind, rack=(0, 1), thing=(1, (0,)))
        self.tells_both([(0,)], trees_of, kind=kind, rack=(0, 1), thing=(1, (0,)))
        self.refused_both(NoRack, is_thing, kind=kind, rack=[1], thing=(0, (0,)))
        self.refused_both(NoThing, trees_of, kind=kind, rack=(1,), thing=(0, ()))

    def test_each_kind_has_its_leaf(self):
        for kind in some_kinds():
            leaf = (kind.first_leaf(),)
            self.tells([leaf] * 3, trees_of(kind, (1, 3), (1, leaf * 3)))


if __name__ == "__main__":
    unittest.main()
