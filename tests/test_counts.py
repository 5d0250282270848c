"""[11]: the trees of a size, how many there are, in the order told."""

import unittest

from boughswap.counts import how_many, number_of, tree_at
from boughswap.errors import NoNumber, NoTree
from boughswap.kinds import Kind
from boughswap.trees import is_tree
from helping import (
    ALL_MAKERS, FIVE, GREAT, LEAVES, LINES, Checks, Forest, Sulky, no_tuples, no_wholes, some_kinds,
    tip_fork,
)

MOST = dict(zip(range(6), [9, 9, 8, 6, 6, 6]))


class OrderTest(Checks):

    def test_all_trees_of_small_sizes(self):
        for at, makers in enumerate(ALL_MAKERS):
            kind = Kind(list(makers))
            forest = Forest(makers)
            for size in range(MOST[at] + 1):
                told = forest.trees(size) if size else []
                with self.subTest(size=size, makers=makers):
                    self.tells(len(told), how_many(kind, size))
                    self.tells(told, [tree_at(kind, size, number) for number in range(len(told))])
                    self.tells(list(range(len(told))), [number_of(kind, tree) for tree in told])

    def test_sizes_go_ahead_of_numbers(self):
        kind = tip_fork()
        # Forks of nine: the sizes 1 and 7, then 3 and 5, 5 and 3, 7 and 1.
        told = [tree_at(kind, 9, number) for number in range(how_many(kind, 9))]
        self.tells((1, 0, 1, 0, 1, 0, 1, 0, 0), told[0])
        self.tells((1, 1, 0, 0, 1, 0, 1, 0, 0), told[5])
        self.tells((1, 1, 0, 1, 0, 0, 1, 0, 0), told[7])
        self.tells((1, 1, 1, 0, 0, 0, 1, 0, 0), told[8])
        self.tells((1, 1, 0, 1, 0, 1, 0, 0, 0), told[9])
        self.tells(14, len(told))

    def test_all_sizes_ahead_of_all_numbers(self):
        kind = Kind([("tri", 3), ("dot", 0), ("ash", 0)])
        # Sizes 1, 1, 4 .. there are none of; 1, 1, 1: the numbers of leaves count up from the right.
        told = [tree_at(kind, 4, number) for number in range(8)]
        leaves = [(x, y, z) for x in (1, 2) for y in (1, 2) for z in (1, 2)]
        self.tells([(0,) + row for row in leaves], told)
        # Of seven: first all of sizes 1, 1, 4, whatever the first leaf is, then those of 1, 4, 1.
        seven = [tree_at(kind, 7, number) for number in range(how_many(kind, 7))]
        self.tells(96, len(seven))
        self.tells((0, 1, 1, 0, 1, 1, 1), seven[0])
        self.tells((0, 2, 2, 0, 2, 2, 2), seven[31])
        self.tells((0, 1, 0, 1, 1, 1, 1), seven[32])
        self.tells((0, 0, 1, 1, 1, 1, 1), seven[64])
        self.tells((0, 0, 1, 1, 1, 1, 2), seven[65])
        self.tells((0, 0, 1, 1, 1, 2, 1), seven[66])

    def test_sizes_without_trees(self):
        for kind in some_kinds():
            self.tells(0, how_many(kind, 0))
            self.refused(NoNumber, tree_at, kind, 0, 0)
        for size in range(0, 61, 2):
            self.tells(0, how_many(tip_fork(), size))
            self.refused(NoNumber, tree_at, tip_fork(), size, 0)

    def test_numbers_of_forks(self):
        counts = [1, 1, 2, 5, 14, 42, 132, 429, 1430, 4862, 16796, 58786]
        self.tells(counts, [how_many(tip_fork(), 2 * many + 1) for many in range(12)])


class GreatTest(Checks):

    def test_there_and_back(self):
        for kind in some_kinds():
            for size in (10, 21, 33, 47, 58, 59, 60):
                many = how_many(kind, size)
                for number in sorted({0, 1, many // 7, many // 2, many * 5 // 8, many - 2, many - 1}):
                    if 0 <= number < many:
                        tree = tree_at(kind, size, number)
                        self.assertTrue(is_tree(kind, tree))
                        self.tells(size, len(tree))
                        self.tells(number, number_of(kind, tree))
                self.refused(NoNumber, tree_at, kind, size, many)

    def test_order_of_great_trees(self):
        kind = Kind(list(LINES))
        many = how_many(kind, 60)
        self.tells((0,) * 59 + (2,), tree_at(kind, 59 + 1, 0))
        # The last trees are of the last maker that has any: tri, the sizes 58, 1 .. there is no room for more.
        last = tree_at(kind, 60, many - 1)
        self.tells((1,), last[:1])
        self.tells((2, 2), last[-2:])

    def test_sixty_and_five_makers_are_quick(self):
        kind = Kind(list(FIVE))
        many = self.quick(how_many, kind, 60)
        self.assertGreater(many, 10 ** 25)
        tree = self.quick(tree_at, kind, 60, many * 2 // 3)
        self.tells(many * 2 // 3, self.quick(number_of, kind, tree))
        # Four out of five with four trees within.
        wide = Kind(list(zip("abcde", [4, 4, 4, 4, 0])))
        many = self.quick(how_many, wide, 57)
        tree = self.quick(tree_at, wide, 57, many - 1)
        self.tells(many - 1, self.quick(number_of, wide, tree))


class RefusedTest(Checks):

    def sizes(self):
        return no_wholes() + [-1, 61, 62, -GREAT, GREAT]

    def test_sizes(self):
        for kind in (tip_fork(), Kind(list(LEAVES))):
            for size in self.sizes():
                with self.subTest(repr(size)):
                    self.refused(NoNumber, how_many, kind, size)
                    for number in (0, -1, GREAT, None, True, "0", Sulky()):
                        self.refused(NoNumber, tree_at, kind, size, number)
            self.tells(0, how_many(kind, 0))
            self.tells(True, isinstance(how_many(kind, 60), int))

    def test_numbers(self):
        kind = tip_fork()
        for size in (1, 2, 7, 59, 60):
            for number in no_wholes() + [-1, -GREAT, how_many(kind, size), how_many(kind, size) + 1, 10 ** 59]:
                with self.subTest(size=size, number=repr(number)):
                    self.refused(NoNumber, tree_at, kind, size, number)

    def test_no_tree_ahead_of_no_number(self):
        kind = tip_fork()
        for thing in no_tuples() + [(), (0, 0), (1,), (0,) * 61, (1,) * 61, (1, 0) * 40, (2,) * 70, [0] * 61]:
            with self.subTest(repr(thing)):
                self.refused(NoTree, number_of, kind, thing)

    def test_trees_of_more_than_sixty_numbers(self):
        kind = tip_fork()
        for many in (30, 31, 49, 500):
            self.refused(NoNumber, number_of, kind, (1,) * many + (0,) * (many + 1))
        self.tells(True, number_of(kind, (1,) * 29 + (0,) * 30) >= 0)
        line = Kind(list(LINES))
        self.tells(0, number_of(line, (0,) * 59 + (2,)))
        self.refused(NoNumber, number_of, line, (0,) * 60 + (2,))

    def test_by_names(self):
        kind = tip_fork()
        self.tells_both(2, how_many, kind=kind, size=5)
        self.tells_both((1, 1, 0, 0, 0), tree_at, kind=kind, size=5, number=1)
        self.tells_both(1, number_of, kind=kind, tree=(1, 1, 0, 0, 0))
        self.refused_both(NoNumber, how_many, kind=kind, size=61)
        self.refused_both(NoNumber, tree_at, kind=kind, size=5, number=2)
        self.refused_both(NoTree, number_of, kind=kind, tree=(1, 0))


if __name__ == "__main__":
    unittest.main()
