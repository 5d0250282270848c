"""[27]: patterns, their holes, filled and matched."""

import unittest
from itertools import product

from boughswap.errors import NoNumber, NoPattern, NoRack, NoThing
from boughswap.kinds import Kind
from boughswap.patterns import filled, holes_of, is_pattern, matched
from boughswap.racks import is_thing
from helping import ALL_MAKERS, FIVE, LINES, TIP_FORK, Checks, Forest, no_racks, no_things, no_wholes, tip_fork

RACK = (2, 0, 1)


def rows_with_holes(makers, longest):
    """All tuples of makers' numbers and holes, up to so many."""
    for size in range(longest + 1):
        yield from product(range(-1, len(makers)), repeat=size)


def leafed(makers, row):
    """The row with a tree of one number in each hole."""
    leaf = [within for name, within in makers].index(0)
    return tuple([leaf if number == -1 else number for number in row])


def patterns_of(makers, rack, longest):
    """The patterns of a rack with rows up to so long, found by filling their holes."""
    kind = Kind(list(makers))
    return [(place, row) for place in range(len(rack)) for row in rows_with_holes(makers, longest)
            if is_thing(kind, rack, (place, leafed(makers, row)))]


class IsPatternTest(Checks):

    def test_holes_at_the_top_within_several_none_and_alone(self):
        kind = tip_fork()
        for row in ((-1, -1), (-1, 0), (0, -1), (0, 0), (1, -1, 0, 0), (0, 1, 0, -1), (1, 1, -1, 0, -1, -1),
                    (1, -1, -1, 1, 0, 1, -1, 0)):
            self.tells_both(True, is_pattern, kind=kind, rack=RACK, thing=(0, row))
        for row in ((-1,), (0,), (1, -1, -1), (1, 1, 1, -1, 0, 0, 0)):
            self.tells(True, is_pattern(kind, RACK, (2, row)))
        self.tells(True, is_pattern(kind, RACK, (1, ())))

    def test_near_misses(self):
        kind = tip_fork()
        for thing in (
            (1, (-1, -1)), (2, (-1, -1)), (3, (-1, -1)), (3, ()), (-1, (-1,)), (-3, (-1, -1)), (0, ()), (0, (-1,)),
            (0, (-1, -1, -1)), (0, (1, -1, -1)), (0, (-1, 1, -1)), (0, (-1, 1)), (0, (-1, -2)), (0, (-2, -1)),
            (0, (2, -1)), (0, (-1, 2)), (0, (1, -1, -1, -1, -1)), (1, (-1,)), (0, (1, -2, 0, 0)),
        ):
            with self.subTest(thing):
                self.tells_both(False, is_pattern, kind=kind, rack=RACK, thing=thing)

    def test_truths_texts_lists_and_other_sorts(self):
        kind = tip_fork()
        odd = no_things() + [
            (0, [-1, -1]), [0, (-1, -1)], (False, (-1, -1)), (0, (False, -1)), (0, (True, -1, -1, -1)), (0, "-1-1"),
            ("0", (-1, -1)), (0, ("-1", -1)), (0, (-1.0, -1)), (0, (None, -1)), (0, ((-1,), (-1,))), (0,),
            (0, (-1, -1), 0), (0, -1), -1, (-1,), ((0, (-1, -1)),),
        ]
        for thing in odd:
            with self.subTest(repr(thing)):
                self.tells(False, is_pattern(kind, RACK, thing))

    def test_against_filling_with_leaves(self):
        for makers in ALL_MAKERS:
            kind = Kind(list(makers))
            for rack in ((2, 0, 1), (1, 3)):
                told = [(place, row) for place in range(-1, 4) for row in rows_with_holes(makers, 4)
                        if is_pattern(kind, rack, (place, row))]
                self.tells(patterns_of(makers, rack, 4), told)

    def test_a_thing_is_a_pattern(self):
        for makers in ALL_MAKERS:
            for thing in Forest(makers).things_up_to(RACK, 4):
                self.tells(True, is_pattern(Kind(list(makers)), RACK, thing))

    def test_no_rack(self):
        for rack in no_racks():
            self.refused_both(NoRack, is_pattern, kind=tip_fork(), rack=rack, thing=None)


class FilledTest(Checks):

    def test_holes_of(self):
        for row, many in (((), 0), ((0, 0), 0), ((-1,), 1), ((1, -1, 0), 1), ((-1, 1, -1, -1, 0), 3)):
            self.tells_both(many, holes_of, pattern=(0, row))
        self.tells(200, holes_of((7, (-1,) * 200)))

    def test_from_left_to_right(self):
        trees = [(0,), (1, 0, 0), (1, 1, 0, 0, 0)]
        self.tells_both((4, (1, 0, 0, 0, 1, 1, 0, 0, 1, 1, 0, 0, 0)), filled,
                        pattern=(4, (1, 0, -1, 0, 1, -1, -1)), trees=trees)
        self.tells((0, (0, 1, 0, 0, 1, 1, 0, 0, 0)), filled((0, (-1, -1, -1)), trees))
        self.tells((0, (1, 0, 0)), filled((0, (1, 0, 0)), []))
        self.tells((3, ()), filled((3, ()), []))

    def test_the_list_stays(self):
        trees = [(0,), (1, 0, 0)]
        filled((0, (-1, -1)), trees)
        self.tells([(0,), (1, 0, 0)], trees)

    def test_one_tree_more_and_one_fewer(self):
        for row in ((), (0,), (-1,), (1, -1, 0), (-1, 1, -1, -1)):
            many = row.count(-1)
            for trees in ([(0,)] * (many + 1), [(0,)] * max(many - 1, 0), [(0,)] * (many + 7)):
                if len(trees) != many:
                    self.refused_both(NoNumber, filled, pattern=(0, row), trees=trees)


class MatchedTest(Checks):

    def test_of_what_it_fills(self):
        for makers in (TIP_FORK, LINES, FIVE):
            kind = Kind(list(makers))
            trees = Forest(makers).trees(1) + Forest(makers).trees(3)[:2] + Forest(makers).trees(4)[:2]
            for pattern in patterns_of(makers, RACK, 4):
                for some in product(trees, repeat=holes_of(pattern)):
                    thing = filled(pattern, list(some))
                    self.tells(True, is_thing(kind, RACK, thing))
                    self.tells(list(some), matched(kind, RACK, pattern, thing))

    def test_against_all_fillings(self):
        forest = Forest(TIP_FORK)
        trees = forest.trees(1) + forest.trees(3) + forest.trees(5)
        for pattern in patterns_of(TIP_FORK, RACK, 5):
            fillings = {filled(pattern, list(some)): list(some) for some in product(trees, repeat=holes_of(pattern))}
            for thing in forest.things_up_to(RACK, 6):
                self.tells(fillings.get(thing), matched(tip_fork(), RACK, pattern, thing))

    def test_another_thing_maker_and_place(self):
        kind = tip_fork()
        rack = (2, 2)
        pattern = (0, (1, -1, 0, -1))
        self.tells_both([(0,), (1, 0, 0)], matched, kind=kind, rack=rack, pattern=pattern,
                        thing=(0, (1, 0, 0, 1, 0, 0)))
        self.tells(None, matched(kind, rack, pattern, (1, (1, 0, 0, 1, 0, 0))))
        self.tells(None, matched(kind, rack, pattern, (0, (1, 0, 1, 0, 0, 0))))
        self.tells(None, matched(kind, rack, pattern, (0, (0, 1, 0, 0))))
        self.tells(None, matched(kind, rack, pattern, (0, (0, 0))))
        two_leaves = Kind([("ash", 0), ("oak", 0), ("pair", 2)])
        self.tells([(1,)], matched(two_leaves, (1,), (0, (2, 0, -1)), (0, (2, 0, 1))))
        self.tells(None, matched(two_leaves, (1,), (0, (2, 0, -1)), (0, (2, 1, 1))))
        self.tells([], matched(two_leaves, (1,), (0, (1,)), (0, (1,))))
        self.tells(None, matched(two_leaves, (1,), (0, (1,)), (0, (0,))))

    def test_without_holes_and_without_trees(self):
        kind = tip_fork()
        self.tells([], matched(kind, RACK, (0, (0, 0)), (0, (0, 0))))
        self.tells([], matched(kind, RACK, (1, ()), (1, ())))
        self.tells(None, matched(kind, (0, 0), (1, ()), (0, ())))

    def test_deep_trees(self):
        kind = tip_fork()
        tree = (1, 0) * 3000 + (0,)
        self.tells([tree, (0,), tree], self.quick(matched, kind, (2,), (0, (-1, 1, -1, -1)), (0, tree + (1, 0) + tree)))

    def test_a_new_list_each_time(self):
        kind = tip_fork()
        told = matched(kind, (1,), (0, (1, -1, -1)), (0, (1, 0, 0)))
        told.clear()
        self.tells([(0,), (0,)], matched(kind, (1,), (0, (1, -1, -1)), (0, (1, 0, 0))))

    def test_refused_in_order(self):
        kind = tip_fork()
        for rack in no_racks():
            self.refused_both(NoRack, matched, kind=kind, rack=rack, pattern=None, thing=None)
        for pattern in no_things() + [(0, (-1,)), (0, (-1, -2)), (3, ()), (1, (-1,)), (2, (-1, -1)), (-1, (-1,))]:
            self.refused_both(NoPattern, matched, kind=kind, rack=RACK, pattern=pattern, thing=None)
            self.refused(NoPattern, matched, kind, RACK, pattern, (1, ()))
        for thing in no_things() + no_wholes() + [(0, (-1, -1)), (0, (0, -1)), (1, (0,)), (2, (1, -1, 0)), (3, ())]:
            self.refused_both(NoThing, matched, kind=kind, rack=RACK, pattern=(0, (-1, -1)), thing=thing)
            self.refused(NoThing, matched, kind, RACK, (1, ()), thing)


if __name__ == "__main__":
    unittest.main()
