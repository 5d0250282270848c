"""[15]: the things of a size, how many there are, in the order told."""

import unittest

from boughswap.counts import how_many, number_of, tree_at
from boughswap.errors import NoNumber, NoRack, NoThing
from boughswap.kinds import Kind
from boughswap.lists import how_many_things, number_of_thing, thing_at
from boughswap.racks import is_thing
from helping import (
    ALL_MAKERS, FIVE, GREAT, LINES, PAIRS, Checks, Forest, Sulky, no_racks, no_things, no_wholes, some_kinds, tip_fork,
)

RACKS = [(), (0,), (1,), (2,), (0, 0), (1, 0, 1), (2, 0, 1, 3), (5, 1), (6,), (200, 1, 200)]


class OrderTest(Checks):

    def test_all_things_of_small_sizes(self):
        for makers in ALL_MAKERS:
            kind = Kind(list(makers))
            forest = Forest(makers)
            for rack in RACKS[:-1]:
                for size in range(7 if len(makers) == 2 else 6):
                    told = forest.things(rack, size)
                    with self.subTest(makers=makers, rack=rack, size=size):
                        self.tells(len(told), how_many_things(kind, rack, size))
                        self.tells(told, [thing_at(kind, rack, size, number) for number in range(len(told))])
                        self.tells(list(range(len(told))), [number_of_thing(kind, rack, thing) for thing in told])
                        self.refused(NoNumber, thing_at, kind, rack, size, len(told))

    def test_places_then_sizes_then_numbers(self):
        kind = tip_fork()
        rack = (1, 0, 2, 1, 2)
        told = [
            (2, (0, 1, 0, 1, 0, 0)), (2, (0, 1, 1, 0, 0, 0)), (2, (1, 0, 0, 1, 0, 0)),
            (2, (1, 0, 1, 0, 0, 0)), (2, (1, 1, 0, 0, 0, 0)),
        ]
        told = told + [(4, row) for place, row in told]
        self.tells(told, [thing_at(kind, rack, 6, number) for number in range(10)])
        self.tells(10, how_many_things(kind, rack, 6))

    def test_forms_without_trees(self):
        kind = tip_fork()
        self.tells(3, how_many_things(kind, (0, 1, 0, 0), 0))
        self.tells([(0, ()), (2, ()), (3, ())], [thing_at(kind, (0, 1, 0, 0), 0, number) for number in range(3)])
        self.tells([0, 1, 2], [number_of_thing(kind, (0, 1, 0, 0), (place, ())) for place in (0, 2, 3)])
        self.tells(4000, how_many_things(kind, (0,) * 4000, 0))
        self.tells((3999, ()), thing_at(kind, (0,) * 4000, 0, 3999))
        self.tells(0, how_many_things(kind, (0,) * 4000, 1))

    def test_an_empty_rack(self):
        for kind in some_kinds():
            for size in (0, 1, 7, 60):
                self.tells(0, how_many_things(kind, (), size))
                self.refused(NoNumber, thing_at, kind, (), size, 0)

    def test_a_rack_of_one_tree_is_the_trees(self):
        for kind in some_kinds():
            for size in (0, 5, 9, 31, 57):
                many = how_many(kind, size)
                self.tells(many, how_many_things(kind, (1,), size))
                for number in sorted({0, many // 3, max(many - 1, 0)}):
                    if number < many:
                        tree = tree_at(kind, size, number)
                        self.tells((0, tree), thing_at(kind, (1,), size, number))
                        self.tells(number_of(kind, tree), number_of_thing(kind, (1,), (0, tree)))


class GreatTest(Checks):

    def test_there_and_back(self):
        for kind in some_kinds():
            for rack in RACKS:
                for size in (12, 23, 41, 59, 60):
                    many = how_many_things(kind, rack, size)
                    for number in sorted({0, 1, many // 9, many // 2, many * 7 // 8, many - 1}):
                        if 0 <= number < many:
                            thing = thing_at(kind, rack, size, number)
                            self.assertTrue(is_thing(kind, rack, thing))
                            self.tells(size, len(thing[1]))
                            self.tells(number, number_of_thing(kind, rack, thing))
                    self.refused(NoNumber, thing_at, kind, rack, size, many)

    def test_more_trees_than_numbers(self):
        kind = tip_fork()
        self.tells(0, how_many_things(kind, (200,), 60))
        self.tells(1, how_many_things(kind, (60, 200, 61), 60))
        self.tells((0, (0,) * 60), thing_at(kind, (60, 200, 61), 60, 0))
        self.tells((2, (0,) * 60), thing_at(kind, (200, 61, 60), 60, 0))
        # Of 58 trees with 60 numbers one is a fork of two tips, the last one first.
        self.tells(58, how_many_things(kind, (58,), 60))
        self.tells((0, (0,) * 57 + (1, 0, 0)), thing_at(kind, (58,), 60, 0))
        self.tells((0, (1, 0, 0) + (0,) * 57), thing_at(kind, (58,), 60, 57))

    def test_sixty_is_quick(self):
        for makers in (FIVE, PAIRS):
            kind = Kind(list(makers))
            rack = (5, 3, 0, 4, 5)
            many = self.quick(how_many_things, kind, rack, 60)
            thing = self.quick(thing_at, kind, rack, 60, many - 1)
            self.tells(many - 1, self.quick(number_of_thing, kind, rack, thing))
            wide = (200, 30, 1) * 1333
            many = self.quick(how_many_things, kind, wide, 60)
            thing = self.quick(thing_at, kind, wide, 60, many - 1)
            self.tells(many - 1, self.quick(number_of_thing, kind, wide, thing))


class RefusedTest(Checks):

    def test_no_rack_first(self):
        kind = tip_fork()
        for rack in no_racks():
            with self.subTest(repr(rack)[:60]):
                for size in (1, -1, None, Sulky()):
                    self.refused(NoRack, how_many_things, kind, rack, size)
                    self.refused(NoRack, thing_at, kind, rack, size, -1)
                for thing in ((0, (0,)), None, Sulky(), (0, (0,) * 61)):
                    self.refused(NoRack, number_of_thing, kind, rack, thing)

    def test_sizes(self):
        kind = tip_fork()
        for rack in ((), (0,), (1, 2)):
            for size in no_wholes() + [-1, 61, 62, GREAT, -GREAT]:
                with self.subTest(repr(size)):
                    self.refused(NoNumber, how_many_things, kind, rack, size)
                    for number in (0, -1, None, Sulky()):
                        self.refused(NoNumber, thing_at, kind, rack, size, number)

    def test_numbers(self):
        kind = tip_fork()
        for rack in ((0, 0), (1, 2), (3,)):
            for size in (0, 5, 60):
                many = how_many_things(kind, rack, size)
                for number in no_wholes() + [-1, -GREAT, many, many + 1, 10 ** 59]:
                    with self.subTest(rack=rack, size=size, number=repr(number)):
                        self.refused(NoNumber, thing_at, kind, rack, size, number)

    def test_no_thing_ahead_of_no_number(self):
        kind = tip_fork()
        bad = [(0, (0,) * 61), (0, (1,) * 70), (3, (1,) * 31 + (0,) * 32), (1, (1,) * 31 + (0,) * 32), (0, ())]
        for thing in no_things() + bad:
            with self.subTest(repr(thing)):
                self.refused(NoThing, number_of_thing, kind, (1, 0, 2), thing)

    def test_things_of_more_than_sixty_numbers(self):
        kind = tip_fork()
        self.refused(NoNumber, number_of_thing, kind, (0, 1), (1, (1,) * 30 + (0,) * 31))
        self.refused(NoNumber, number_of_thing, kind, (61,), (0, (0,) * 61))
        self.refused(NoNumber, number_of_thing, kind, (200,), (0, (0,) * 200))
        self.tells(0, number_of_thing(kind, (60,), (0, (0,) * 60)))
        self.tells(0, number_of_thing(Kind(list(LINES)), (1,), (0, (0,) * 59 + (2,))))
        self.refused(NoNumber, number_of_thing, Kind(list(LINES)), (1,), (0, (0,) * 60 + (2,)))

    def test_by_names(self):
        kind = tip_fork()
        self.tells_both(2, how_many_things, kind=kind, rack=(2, 1), size=4)
        self.tells_both((0, (1, 0, 0, 0)), thing_at, kind=kind, rack=(2, 1), size=4, number=1)
        self.tells_both(1, number_of_thing, kind=kind, rack=(2, 1), thing=(0, (1, 0, 0, 0)))
        self.refused_both(NoNumber, how_many_things, kind=kind, rack=(2, 1), size=61)
        self.refused_both(NoNumber, thing_at, kind=kind, rack=(2, 1), size=4, number=2)
        self.refused_both(NoThing, number_of_thing, kind=kind, rack=(2, 1), thing=(0, (0,)))


if __name__ == "__main__":
    unittest.main()
