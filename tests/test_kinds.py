"""[8] and [9]: kinds, their makers and their polynomials; [2]: what is handed in, and told, is apart from the kind."""

import unittest

from boughswap.errors import NoKind, NoMaker
from boughswap.kinds import Kind
from boughswap.polys import taken_off
from helping import (
    ALL_MAKERS, FIVE, GREAT, LEAVES, LINES, PAIRS, TIP_FORK, Checks, Sulky, no_wholes, some_kinds,
    tip_fork,
)


class Ends(list):
    """A list of a sort of its own."""


class MakersTest(Checks):

    def test_makers_are_told_as_they_were_handed_in(self):
        for makers in ALL_MAKERS:
            with self.subTest(makers):
                self.tells(makers, Kind(list(makers)).makers())
                self.tells(makers, Kind(makers=list(makers)).makers())

    def test_a_list_changed_behind_the_call_changes_no_kind(self):
        makers = list(TIP_FORK)
        kind = Kind(makers)
        makers[0] = ("other", 4)
        makers.append(("more", 1))
        self.tells(TIP_FORK, kind.makers())
        self.tells((1, 0, 1), kind.poly())
        self.assertEqual(2, len(kind))
        makers.clear()
        self.tells("tip", kind.name(0))

    def test_the_list_handed_in_stays(self):
        makers = list(FIVE)
        Kind(makers).gap()
        self.tells(FIVE, makers)

    def test_each_list_told_is_a_new_one(self):
        kind = tip_fork()
        first = kind.makers()
        self.assertIsNot(first, kind.makers())
        first.clear()
        second = kind.makers()
        second[1] = ("fork", 3)
        self.tells(TIP_FORK, kind.makers())
        self.tells(2, kind.within(1))

    def test_len(self):
        for makers in ALL_MAKERS:
            self.tells(len(makers), len(Kind(list(makers))))

    def test_name_within_and_number_of_each(self):
        for makers in ALL_MAKERS:
            kind = Kind(list(makers))
            for maker, (name, many) in enumerate(makers):
                with self.subTest(maker=maker, of=makers):
                    self.tells_both(name, kind.name, maker=maker)
                    self.tells_both(many, kind.within, maker=maker)
                    self.tells_both(maker, kind.number, name=name)

    def test_what_is_no_number_of_a_maker(self):
        for kind in some_kinds():
            for maker in no_wholes() + [-1, -2, len(kind), len(kind) + 1, GREAT, -GREAT, "tip", "none"]:
                with self.subTest(repr(maker)):
                    self.refused_both(NoMaker, kind.name, maker=maker)
                    self.refused_both(NoMaker, kind.within, maker=maker)

    def test_what_is_none_of_the_names(self):
        kind = tip_fork()
        for name in no_wholes() + [0, 1, -1, "tips", "ti", "Tip", "tip ", " tip", "tipfork", b"tip", ("tip",), ["tip"]]:
            with self.subTest(repr(name)):
                self.refused_both(NoMaker, kind.number, name=name)
        self.refused(NoMaker, Kind(list(LINES)).number, "tip")


class RefusedTest(Checks):

    def test_no_list(self):
        for makers in no_wholes() + [0, tuple(TIP_FORK), dict(TIP_FORK), iter(TIP_FORK), "tip 0, fork 2", tip_fork()]:
            with self.subTest(repr(makers)):
                self.refused_both(NoKind, Kind, makers=makers)

    def test_too_few_or_too_many_makers(self):
        self.refused(NoKind, Kind, [])
        self.refused(NoKind, Kind, [("tip", 0)])
        self.refused(NoKind, Kind, [("fork", 2)])
        self.refused(NoKind, Kind, FIVE + [("six", 0)])
        self.refused(NoKind, Kind, FIVE + [("six", 2), ("seven", 1)])

    def test_some_maker_has_no_trees_and_some_two_or_more(self):
        for many in ([1, 2], [2, 3, 4], [1, 1], [0, 0], [0, 1], [0, 1, 1, 0, 0], [4, 4]):
            makers = list(zip("abcde", many))
            self.refused(NoKind, Kind, makers)
        for many in ([0, 2], [0, 3], [4, 0], [0, 0, 1, 1, 2], [2, 2, 2, 2, 0]):
            makers = list(zip("abcde", many))
            self.tells(makers, Kind(makers).makers())

    def test_a_name_twice(self):
        self.refused(NoKind, Kind, [("tip", 0), ("tip", 2)])
        self.refused(NoKind, Kind, [("tip", 0), ("fork", 2), ("tip", 0)])
        self.refused(NoKind, Kind, FIVE[:4] + [("none", 4)])

    def test_names(self):
        good = ["a", "z", "abcdefgh", "ijklmnop", "qrstuvwx", "yz"]
        for name in good:
            self.tells([(name, 0), ("fork", 2)], Kind([(name, 0), ("fork", 2)]).makers())
        bad = ["", "abcdefghi", "Tip", "tiP", "TIP", "tip1", "1", "ti p", " ", "tip\n", "ti-p", "_", "t\u00e4p",
               "\u00df",
               "\u03b1", "\u00aa", "`", "{", "tip,"]
        bad = bad + [0, 1, b"tip", ["t"], ("t",)] + [thing for thing in no_wholes() if not isinstance(thing, str)]
        for name in bad:
            with self.subTest(repr(name)):
                self.refused(NoKind, Kind, [(name, 0), ("fork", 2)])
                self.refused(NoKind, Kind, [("tip", 0), (name, 2)])

    def test_numbers_of_trees_within(self):
        for many in range(5):
            self.tells(many, Kind([("tip", 0), ("fork", 2), ("x", many)]).within(2))
        for many in no_wholes() + [-1, 5, 6, GREAT, -GREAT]:
            with self.subTest(repr(many)):
                self.refused(NoKind, Kind, [("tip", 0), ("fork", 2), ("x", many)])
                self.refused(NoKind, Kind, [("x", many), ("tip", 0), ("fork", 2)])
        # False is equal to 0, and True to 1; neither is a whole number.
        self.refused(NoKind, Kind, [("tip", False), ("fork", 2)])

    def test_makers_that_are_no_tuples_of_two(self):
        bad = [["tip", 0], ("tip",), (), ("tip", 0, 0), (0, "tip"), "tip", "ti", 0, None, {"tip": 0}, {"tip", 0},
               Sulky(),
               (("tip", 0),), ("tip", (0,)), True]
        for maker in bad:
            with self.subTest(repr(maker)):
                self.refused(NoKind, Kind, [maker, ("dot", 0), ("fork", 2)])
                self.refused(NoKind, Kind, [("dot", 0), ("fork", 2), maker])


class AlikeTest(Checks):

    def test_alike_where_the_makers_are(self):
        for at, makers in enumerate(ALL_MAKERS):
            for behind, others in enumerate(ALL_MAKERS):
                one, other = Kind(list(makers)), Kind(list(others))
                self.assertIs(at == behind, one == other)
                self.assertIs(at != behind, one != other)

    def test_the_order_names_and_numbers_of_makers_count(self):
        kind = tip_fork()
        for makers in ([("fork", 2), ("tip", 0)], [("tip", 0), ("forks", 2)], [("tip", 0), ("fork", 3)],
                       TIP_FORK + [("more", 0)], [("fork", 0), ("tip", 2)]):
            self.assertFalse(kind == Kind(makers))
            self.assertTrue(kind != Kind(makers))

    def test_a_kind_equals_nothing_else(self):
        kind = tip_fork()
        for thing in no_wholes() + [0, TIP_FORK, tuple(TIP_FORK), "tip 0, fork 2", dict(TIP_FORK), kind.poly(),
                                    Ends(TIP_FORK)]:
            if not isinstance(thing, Sulky):
                self.assertIs(False, kind == thing)
                self.assertIs(True, kind != thing)
        self.assertIs(False, kind.__eq__(Sulky()))


class PolynomialTest(Checks):

    def test_example(self):
        self.tells((1, 0, 1), tip_fork().poly())
        self.tells((1, -1, 1), tip_fork().gap())
        self.tells(0, tip_fork().first_leaf())
        self.tells(1, tip_fork().first_wide())

    def test_poly(self):
        told = [(1, 0, 1), (1, 0, 1), (1, 1, 0, 1), (2, 0, 1, 0, 1), (1, 1, 1, 1, 1), (1, 2, 2)]
        self.tells(told, [kind.poly() for kind in some_kinds()])
        self.tells((3, 0, 0, 0, 2), Kind(list(zip("abcde", [0, 4, 0, 4, 0]))).poly())
        self.tells((1, 0, 0, 4), Kind(list(zip("abcde", [3, 3, 0, 3, 3]))).poly())

    def test_gap(self):
        # Of the first power none, one and several makers.
        told = [(1, -1, 1), (1, -1, 1), (1, 0, 0, 1), (2, -1, 1, 0, 1), (1, 0, 1, 1, 1), (1, 1, 2)]
        self.tells(told, [kind.gap() for kind in some_kinds()])
        for kind in some_kinds():
            self.tells(taken_off(kind.poly(), (0, 1)), kind.gap())

    def test_first_leaf_and_first_wide(self):
        self.tells([0, 1, 2, 1, 0, 4], [kind.first_leaf() for kind in some_kinds()])
        self.tells([1, 0, 1, 0, 2, 0], [kind.first_wide() for kind in some_kinds()])
        for many, leaf, wide in [([1, 0, 0, 3, 2], 1, 3), ([1, 1, 1, 2, 0], 4, 3), ([4, 2, 0, 0], 2, 0),
                                 ([0, 1, 0, 4], 0, 3)]:
            kind = Kind(list(zip("abcde", many)))
            self.tells(leaf, kind.first_leaf())
            self.tells(wide, kind.first_wide())

    def test_the_same_again(self):
        kind = Kind(list(PAIRS))
        for _ in range(2):
            self.tells((1, 2, 2), kind.poly())
            self.tells((1, 1, 2), kind.gap())
            self.tells(PAIRS, kind.makers())
        self.assertEqual(4, len(Kind(list(LEAVES))))


if __name__ == "__main__":
    unittest.main()
