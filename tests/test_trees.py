"""[10]: trees, rows of trees, how deep a tree is, and the tree of one leaf."""

import unittest
from itertools import product

from boughswap.errors import NoTree
from boughswap.kinds import Kind
from boughswap.trees import deep_of, is_tree, leaf_tree, trees_in
from helping import (
    ALL_MAKERS, FIVE, LEAVES, LINES, Checks, Forest, joined, no_tuples, no_wholes, parts_of,
    some_kinds, tip_fork,
)


def read_row(makers, row):
    """The trees of a row, read one behind the other; None where it is no row."""
    trees = []
    start = 0
    while start < len(row):
        _, end = parts_of(makers, row, start)
        if end is None:
            return None
        trees.append(row[start:end])
        start = end
    return trees


def deep(makers, tree):
    return 1 + max([0] + [deep(makers, part) for part in parts_of(makers, tree)[0]])


class TreesTest(Checks):

    def test_example(self):
        kind = tip_fork()
        self.tells(True, is_tree(kind, (1, 0, 1, 0, 0)))
        self.tells([(1, 0, 1, 0, 0)], trees_in(kind, (1, 0, 1, 0, 0)))
        self.tells([(0,), (1, 0, 1, 0, 0), (0,)], trees_in(kind, (0, 1, 0, 1, 0, 0, 0)))

    def test_all_tuples_of_few_numbers(self):
        for makers, most in zip(ALL_MAKERS, [9, 9, 6, 5, 5, 5]):
            kind = Kind(list(makers))
            for size in range(most + 1):
                for row in product(range(len(makers)), repeat=size):
                    trees = read_row(makers, row)
                    self.tells(trees, trees_in(kind, row))
                    self.tells(trees is not None and len(trees) == 1, is_tree(kind, row))

    def test_nothing(self):
        for kind in some_kinds():
            self.tells([], trees_in(kind, ()))
            self.tells(False, is_tree(kind, ()))

    def test_one_number_left_out_or_too_many(self):
        kind = tip_fork()
        tree = (1, 1, 0, 0, 1, 0, 0)
        self.tells(True, is_tree(kind, tree))
        for at in range(len(tree)):
            short = tree[:at] + tree[at + 1:]
            self.tells(False, is_tree(kind, short))
        self.tells(None, trees_in(kind, tree[:-1]))
        self.tells(None, trees_in(kind, (1,)))
        self.tells(None, trees_in(kind, (0, 1)))
        self.tells(False, is_tree(kind, tree + (0,)))
        self.tells([tree, (0,)], trees_in(kind, tree + (0,)))

    def test_numbers_of_no_maker(self):
        for makers in ALL_MAKERS:
            kind = Kind(list(makers))
            leaf = kind.first_leaf()
            for number in no_wholes() + [-1, -len(makers), len(makers), 10 ** 59, 0.0, 1.0]:
                for row in ((number,), (leaf, number), (number, leaf), (leaf, number, leaf)):
                    with self.subTest(repr(row)):
                        self.tells(None, trees_in(kind, row))
                        self.tells(False, is_tree(kind, row))

    def test_truths_are_no_numbers(self):
        kind = tip_fork()
        for row in ((True, False, False), (1, 0, False), (True, 0, 0), (False,)):
            self.tells(False, is_tree(kind, row))
            self.tells(None, trees_in(kind, row))

    def test_what_is_no_tuple(self):
        kind = tip_fork()
        for thing in no_tuples() + [[0], [1, 0, 0], "100", range(1), iter((0,)), {0: 0}, kind]:
            with self.subTest(repr(thing)):
                self.tells(None, trees_in(kind, thing))
                self.tells(False, is_tree(kind, thing))

    def test_nested_tuples(self):
        kind = tip_fork()
        for thing in (((0,),), (1, (0,), (0,)), (1, (0, 0)), ((1, 0, 0),), ((),), (0, ()), (1, [0], [0])):
            self.tells(None, trees_in(kind, thing))
            self.tells(False, is_tree(kind, thing))

    def test_each_list_told_is_a_new_one(self):
        kind = tip_fork()
        row = (0, 1, 0, 0)
        first = trees_in(kind, row)
        first.append((0,))
        self.tells([(0,), (1, 0, 0)], trees_in(kind, row))
        trees_in(kind, ()).append((0,))
        self.tells([], trees_in(kind, ()))

    def test_rows_of_many_trees(self):
        kind = tip_fork()
        tree = (1,) * 49 + (0,) * 50
        self.tells([tree] * 200, self.quick(trees_in, kind, tree * 200))

    def test_by_names(self):
        kind = tip_fork()
        self.tells_both(True, is_tree, kind=kind, thing=(1, 0, 0))
        self.tells_both([(0,), (0,)], trees_in, kind=kind, row=(0, 0))
        self.tells_both(2, deep_of, kind=kind, tree=(1, 0, 0))
        self.refused_both(NoTree, deep_of, kind=kind, tree=(0, 0))
        self.tells_both((0,), leaf_tree, kind=kind)


class DeepTest(Checks):

    def test_leaves(self):
        for makers in ALL_MAKERS:
            kind = Kind(list(makers))
            for maker, (name, many) in enumerate(makers):
                if many == 0:
                    self.tells(1, deep_of(kind, (maker,)))

    def test_small_trees(self):
        for makers in ALL_MAKERS:
            forest = Forest(makers)
            kind = Kind(list(makers))
            for size in range(1, 7):
                for tree in forest.trees(size):
                    self.tells(deep(makers, tree), deep_of(kind, tree))

    def test_chains(self):
        kind = Kind(list(LINES))
        for many in (1, 2, 58, 59, 60, 99):
            self.tells(many + 1, deep_of(kind, (0,) * many + (2,)))
        fork = tip_fork()
        for many in (59, 60, 3000):
            self.tells(many + 1, deep_of(fork, (1,) * many + (0,) * (many + 1)))
            self.tells(many + 1, deep_of(fork, (1, 0) * many + (0,)))
            self.tells(True, is_tree(fork, (1, 0) * many + (0,)))

    def test_the_deepest_of_several(self):
        kind = Kind(list(FIVE))
        line = (1, 1, 1, 0)
        for at in range(4):
            parts = [(0,)] * 4
            parts[at] = line
            self.tells(5, deep_of(kind, (4,) + joined(parts)))
        self.tells(3, deep_of(kind, (4,) + (4, 0, 0, 0, 0) * 4))

    def test_broad_trees(self):
        kind = Kind(list(FIVE))
        tree = (0,)
        for many in range(2, 5):
            tree = (4,) + tree * 4
            self.tells(many, deep_of(kind, tree))

    def test_what_is_no_tree(self):
        kind = tip_fork()
        for thing in no_tuples() + [(), (0, 0), (1,), (1, 0), (1, 0, 0, 0), (2,), (-1,), (True, 0, 0), [0], ((0,),)]:
            with self.subTest(repr(thing)):
                self.refused(NoTree, deep_of, kind, thing)
        # A tree of one kind is none of another.
        self.refused(NoTree, deep_of, Kind(list(LINES)), (1, 0, 0))


class LeafTest(Checks):

    def test_the_first_maker_with_no_trees_within(self):
        self.tells([(0,), (1,), (2,), (1,), (0,), (4,)], [leaf_tree(kind) for kind in some_kinds()])
        self.tells((1,), leaf_tree(Kind(list(LEAVES))))
        for kind in some_kinds():
            self.tells(True, is_tree(kind, leaf_tree(kind)))


if __name__ == "__main__":
    unittest.main()
