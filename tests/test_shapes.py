"""[16] and [17]: shapes, their things, and the racks that they come to."""

import unittest
from itertools import product

from boughswap.errors import NoShape, NoThing, TooMuch
from boughswap.kinds import Kind
from boughswap.racks import is_thing, paired, put_left, put_right
from boughswap.shapes import flat_of, flattened, folded, is_of, is_shape
from helping import FIVE, LINES, TIP_FORK, Checks, Forest, Sulky, no_things, no_tuples, no_wholes, tip_fork

TREE = (1, 0, 1, 0, 0)
MAYBE = ("either", "one", "tree")
TWO = ("both", "tree", "tree")
SHAPES = [
    "none", "one", "tree", MAYBE, TWO, ("either", "none", "tree"), ("both", "none", "tree"), ("both", "one", "one"),
    ("both", MAYBE, MAYBE), ("either", TWO, ("either", "tree", "one")), ("both", ("either", MAYBE, "one"), TWO),
    ("both", ("both", MAYBE, "tree"), ("either", ("both", "tree", "one"), MAYBE)),
    ("either", ("either", "none", "none"), ("both", MAYBE, "none")),
]


def chain(word, deep, first="tree", other="one"):
    """A shape so deep, each level to the right of the one above."""
    shape = first
    for _ in range(deep - 1):
        shape = (word, other, shape)
    return shape


def full(word, deep, leaf="one"):
    """A shape so deep on all its ways."""
    shape = leaf
    for _ in range(deep - 1):
        shape = (word, shape, shape)
    return shape


def no_shapes():
    bad = [
        "", "None", "ONE", "trees", "tre", "one ", "either", "both", b"one", (), ("one",), ("none", "one", "tree"),
        ("either",), ("either", "one"), ("both", "one"), ("either", "one", "one", "one"),
        ("both", "one", "one", "tree"),
        ("Either", "one", "one"), ("all", "one", "one"), ("", "one", "one"), (b"both", "one", "one"),
        ("one", "one", "one"),
        ["either", "one", "tree"], ("either", ["one"], "tree"), ("either", "one", ["both", "one", "one"]),
        ("either", "one", "two"), ("both", "three", "one"), (("either", "one", "one"),), {"either": "one"},
        ("either", ("both", "one", ("either", "one", "leaf")), "one"), (0, "one", "one"), (None, "one", "one"),
        (["both"], "one", "one"), (("both",), "one", "one"), (Sulky(), "one", "one"), (True, "one", "one"),
    ]
    bad = bad + [thing for thing in no_wholes() if not isinstance(thing, str)] + ["7", 0, 1]
    for thing in no_tuples():
        if not isinstance(thing, str):
            bad.extend([("either", thing, "one"), ("both", "one", thing), ("both", "one", ("either", thing, "tree"))])
    return bad


class ShapeTest(Checks):

    def test_each_sort(self):
        for shape in SHAPES:
            with self.subTest(shape):
                self.tells_both(True, is_shape, thing=shape)

    def test_what_is_none(self):
        for thing in no_shapes():
            with self.subTest(repr(thing)):
                self.tells_both(False, is_shape, thing=thing)

    def test_at_most_twelve_deep(self):
        for word in ("either", "both"):
            for deep in range(1, 13):
                self.tells(True, is_shape(chain(word, deep)))
                self.tells(True, is_shape((word, chain(word, min(deep, 11)), "one")))
            for deep in (13, 14, 20, 100000):
                self.tells(False, is_shape(chain(word, deep)))
                self.tells(False, is_shape((word, chain(word, deep), "none")))
            self.tells(False, is_shape((word, chain(word, 12), "one")))
            self.tells(False, is_shape((word, "one", chain(word, 12))))
            self.tells(True, is_shape(full(word, 12)))
            self.tells(False, is_shape(full(word, 13)))

    def test_near_misses_deep_within(self):
        for thing in ("leaf", None, Sulky(), ["one"], (), ("both", "one"), True, 0):
            self.tells(False, is_shape(chain("either", 11, first=thing)))
            self.tells(False, is_shape(chain("both", 12, first=thing)))


class IsOfTest(Checks):

    def test_plain_ones(self):
        kind = tip_fork()
        self.tells(True, is_of(kind, "one", ()))
        self.tells(True, is_of(kind, "tree", (0,)))
        self.tells(True, is_of(kind, "tree", TREE))
        for thing in [(), (0,), "one", None, 0]:
            self.tells(False, is_of(kind, "none", thing))
        for thing in no_tuples() + [[], (0,), ((),), "", (0, ()), None]:
            self.tells(False, is_of(kind, "none", thing))
            self.tells(False, is_of(kind, "one", thing))
        for thing in no_tuples() + [(), (0, 0), (1,), [0], (True, 0, 0), (False,), (2,), ((0,),), (0, (0,)),
                                    ("left", (0,))]:
            self.tells(False, is_of(kind, "tree", thing))

    def test_either(self):
        kind = tip_fork()
        for thing in (("left", ()), ("right", TREE), ("right", (0,))):
            self.tells(True, is_of(kind, MAYBE, thing))
        bad = [("mid", TREE), ("Right", TREE), ("", TREE), ("right ", TREE), ("right", ()), ("left", TREE),
               ("left", (0,)), ("Left", ()), ("mid", ()), ("", ()), (b"left", ()), ["left", ()],
               ("left",), ("left", (), ()), (), ("left", []), ("right", [0]), (0, ()), (True, ()), (None, ()),
               ("left", None),
               (Sulky(), ()), ("left", Sulky()), (["left"], ()), TREE, "left", ((), "left"), ("left", ("left", ())),
               "le"]
        for thing in bad + no_tuples():
            with self.subTest(repr(thing)):
                self.tells(False, is_of(kind, MAYBE, thing))

    def test_both(self):
        kind = tip_fork()
        shape = ("both", "tree", MAYBE)
        for thing in ((TREE, ("left", ())), ((0,), ("right", (0,)))):
            self.tells(True, is_of(kind, shape, thing))
        bad = [(("left", ()), TREE), (TREE,), (TREE, ("left", ()), ()), [TREE, ("left", ())], (), (TREE, TREE),
               (TREE, "left"),
               ((), ("left", ())), ([0], ("left", ())), ((True, 0, 0), ("left", ())), (TREE, ["left", ()]),
               (TREE, ("left", (0,))),
               (None, None), (Sulky(), ("left", ())), (TREE, Sulky()), TREE, (0, 0), "ab"]
        for thing in bad + no_tuples():
            with self.subTest(repr(thing)):
                self.tells(False, is_of(kind, shape, thing))
        self.tells(False, is_of(kind, ("both", "one", "none"), ((), ())))
        self.tells(True, is_of(kind, ("both", "one", "one"), ((), ())))

    def test_deep_things(self):
        kind = tip_fork()
        thing = TREE
        for _ in range(11):
            thing = ("right", thing)
        self.tells(True, is_of(kind, chain("either", 12), thing))
        self.tells(False, is_of(kind, chain("either", 12), ("right", thing)))
        self.tells(False, is_of(kind, chain("either", 11), thing))
        self.tells(False, is_of(kind, chain("either", 12), thing[1]))
        both = TREE
        for _ in range(11):
            both = ((), both)
        self.tells(True, is_of(kind, chain("both", 12), both))
        self.tells(False, is_of(kind, chain("both", 12), ((), both)))

    def test_trees_of_another_kind(self):
        self.tells(False, is_of(Kind(list(LINES)), "tree", TREE))
        self.tells(True, is_of(Kind(list(LINES)), MAYBE, ("right", (0, 2))))
        self.tells(False, is_of(tip_fork(), MAYBE, ("right", (0, 2))))

    def test_no_shape_first(self):
        kind = tip_fork()
        for shape in no_shapes() + [chain("either", 13), full("both", 13)]:
            for thing in ((), None, Sulky()):
                with self.subTest(repr(shape)[:60]):
                    self.refused(NoShape, is_of, kind, shape, thing)
        self.refused_both(NoShape, is_of, kind=kind, shape="two", thing=())
        self.tells_both(True, is_of, kind=kind, shape="one", thing=())


class FlatTest(Checks):

    def test_by_the_two_rules(self):
        self.tells((), flat_of("none"))
        self.tells((0,), flat_of("one"))
        self.tells((1,), flat_of("tree"))
        self.tells((0, 1), flat_of(MAYBE))
        self.tells((2,), flat_of(TWO))
        self.tells((1,), flat_of(("either", "none", "tree")))
        self.tells((), flat_of(("both", "none", "tree")))
        self.tells((0, 1, 1, 2), flat_of(("both", MAYBE, MAYBE)))
        self.tells((2, 1, 0), flat_of(("either", TWO, ("either", "tree", "one"))))
        self.tells((2, 3, 2), flat_of(("both", ("either", MAYBE, "one"), TWO)))
        self.tells((2, 1, 2, 3, 2, 3), flat_of(("both", ("both", MAYBE, "tree"),
                                                ("either", ("both", "tree", "one"), MAYBE))))
        self.tells_both((0, 1), flat_of, shape=MAYBE)

    def test_deep_ones(self):
        self.tells((0,) * 11 + (1,), flat_of(chain("either", 12)))
        self.tells((12,), flat_of(chain("both", 12, other="tree")))
        self.tells((0,) * 2048, self.quick(flat_of, full("either", 12)))
        self.tells((0,), self.quick(flat_of, full("both", 12)))
        self.tells((128,), flat_of(full("both", 8, leaf="tree")))

    def test_no_shape(self):
        for shape in no_shapes() + [chain("either", 13), chain("both", 14)]:
            with self.subTest(repr(shape)[:60]):
                self.refused_both(NoShape, flat_of, shape=shape)


def too_much():
    """Shapes whose racks, or those of shapes within, would be too great."""
    six = full("either", 7)
    forms = ("both", six, six)
    trees = ("both", full("both", 8, leaf="tree"), full("both", 8, leaf="tree"))
    out = [forms, trees, full("both", 9, leaf="tree"), full("both", 10, leaf=MAYBE)]
    for shape in (forms, trees):
        out.extend([("both", shape, "none"), ("both", "none", shape), ("either", "one", shape),
                    ("either", shape, "none")])
        out.append(("both", ("both", ("either", "tree", shape), "none"), "one"))
    return out


class TooMuchTest(Checks):

    def test_four_thousand_forms_and_two_hundred_trees(self):
        forty = ("either", full("either", 6), full("either", 4))
        hundred = ("either", ("either", full("either", 7), full("either", 6)), full("either", 3))
        self.tells((0,) * 4000, flat_of(("both", forty, hundred)))
        self.refused(TooMuch, flat_of, ("either", ("both", forty, hundred), "one"))
        self.refused(TooMuch, flat_of, ("either", "one", ("both", hundred, forty)))
        self.refused(TooMuch, flat_of, ("both", ("either", "one", ("both", hundred, forty)), "none"))
        self.tells((0,) * 4000, flat_of(("either", ("both", hundred, forty), "none")))
        many = ("both", ("both", full("both", 8, leaf="tree"), full("both", 7, leaf="tree")),
                full("both", 4, leaf="tree"))
        self.tells((200,), flat_of(many))
        self.refused(TooMuch, flat_of, ("both", many, "tree"))
        self.refused(TooMuch, flat_of, ("both", "tree", many))
        self.tells((200,), flat_of(("both", many, "one")))
        self.tells((200, 200), flat_of(("both", many, ("either", "one", "one"))))

    def test_the_shape_or_one_within_it(self):
        kind = tip_fork()
        for shape in too_much():
            self.tells(True, is_shape(shape))
            self.refused(TooMuch, flat_of, shape)
            for thing in ((), TREE, None, Sulky(), (0, ())):
                self.refused(TooMuch, flattened, kind, shape, thing)
                self.refused(TooMuch, folded, kind, shape, thing)

    def test_is_of_asks_no_rack(self):
        kind = tip_fork()
        self.tells(False, is_of(kind, ("both", too_much()[0], "none"), ()))
        self.tells(True, is_of(kind, ("either", "one", too_much()[0]), ("left", ())))


class ThereAndBackTest(Checks):

    def things_of(self, forest, shape, most):
        """All things of a shape with at most so many numbers, with how many each has."""
        if isinstance(shape, str):
            trees = [(tree, size) for size in range(1, most + 1) for tree in forest.trees(size)]
            return {"none": [], "one": [((), 0)], "tree": trees}[shape]
        word, a, b = shape
        left = self.things_of(forest, a, most)
        right = self.things_of(forest, b, most)
        if word == "either":
            return [(("left", t), n) for t, n in left] + [(("right", t), n) for t, n in right]
        return [((t, u), n + m) for (t, n), (u, m) in product(left, right) if n + m <= most]

    def flat_by_rules(self, kind, shape, thing):
        if shape == "one":
            return (0, ())
        if shape == "tree":
            return (0, thing)
        word, a, b = shape
        if word == "both":
            one, two = [self.flat_by_rules(kind, part, own) for part, own in zip((a, b), thing)]
            return paired(kind, flat_of(a), flat_of(b), one, two)
        if thing[0] == "left":
            return put_left(kind, flat_of(a), flat_of(b), self.flat_by_rules(kind, a, thing[1]))
        return put_right(kind, flat_of(a), flat_of(b), self.flat_by_rules(kind, b, thing[1]))

    def test_all_small_things(self):
        for makers in (TIP_FORK, LINES, FIVE):
            kind = Kind(list(makers))
            forest = Forest(makers)
            for shape in SHAPES:
                told = []
                for thing, size in self.things_of(forest, shape, 4):
                    self.tells(True, is_of(kind, shape, thing))
                    flat = flattened(kind, shape, thing)
                    self.tells(self.flat_by_rules(kind, shape, thing), flat)
                    self.assertTrue(is_thing(kind, flat_of(shape), flat))
                    self.tells(thing, folded(kind, shape, flat))
                    told.append(flat)
                self.assertEqual(sorted(forest.things_up_to(flat_of(shape), 4)), sorted(told))
                for flat in told:
                    self.tells(flat, flattened(kind, shape, folded(kind, shape, flat)))

    def test_examples(self):
        kind = tip_fork()
        shape = ("both", ("either", "tree", MAYBE), TWO)
        thing = (("right", ("right", TREE)), ((0,), (1, 0, 0)))
        self.tells((3, 2, 3), flat_of(shape))
        self.tells((2, TREE + (0, 1, 0, 0)), flattened(kind, shape, thing))
        self.tells(thing, folded(kind, shape, (2, TREE + (0, 1, 0, 0))))
        self.tells((("right", ("left", ())), ((0,), TREE)), folded(kind, shape, (1, (0,) + TREE)))
        self.tells((0, ()), flattened(kind, "one", ()))
        self.tells((), folded(kind, "one", (0, ())))
        self.tells((0, TREE), flattened(kind, "tree", TREE))
        self.tells(TREE, folded(kind, "tree", (0, TREE)))

    def test_deep_shapes(self):
        kind = tip_fork()
        shape = full("either", 12, leaf="tree")
        for place in (0, 1, 1023, 1024, 2047):
            thing = self.quick(folded, kind, shape, (place, TREE))
            self.tells((place, TREE), self.quick(flattened, kind, shape, thing))
        shape = full("both", 8, leaf="tree")
        row = (TREE + (0,)) * 64
        thing = self.quick(folded, kind, shape, (0, row))
        self.tells((0, row), self.quick(flattened, kind, shape, thing))

    def test_no_shape_first(self):
        kind = tip_fork()
        for shape in no_shapes() + [chain("either", 13), ("both", chain("both", 12), "none")]:
            for thing in ((), None, Sulky(), (0, ())):
                with self.subTest(repr(shape)[:60]):
                    self.refused(NoShape, flattened, kind, shape, thing)
                    self.refused(NoShape, folded, kind, shape, thing)

    def test_no_thing(self):
        kind = tip_fork()
        for shape in SHAPES:
            for thing in no_things() + [("left", (1,)), ("mid", ()), ("right", (0, 0)), ((), (0, 0), ()), ["left", ()]]:
                with self.subTest(shape=shape, thing=repr(thing)):
                    if not is_of(kind, shape, thing):
                        self.refused(NoThing, flattened, kind, shape, thing)
                    self.refused(NoThing, folded, kind, shape, thing)
        for thing in ((1, (0,)), (0, ()), (0, (0, 0)), (-1, (0,)), (True, (0,)), (0, (True, 0, 0))):
            self.refused(NoThing, folded, kind, "tree", thing)
        for thing in ((0, (0,)), (1, ()), (2, (0,)), (True, (0,)), (-1, (0,))):
            self.refused(NoThing, folded, kind, MAYBE, thing)
        for thing in ((), (0, ()), "left", ("left", (0,)), ("right", ()), (("left", ()),)):
            self.refused(NoThing, flattened, kind, MAYBE, thing)
        for shape in ("none", ("both", "none", "tree"), ("either", "none", "none")):
            for thing in ((), (0, ()), ((), (0,)), ("left", ()), None):
                self.refused(NoThing, flattened, kind, shape, thing)
                self.refused(NoThing, folded, kind, shape, thing)

    def test_by_names(self):
        kind = tip_fork()
        self.tells_both((1, (0,)), flattened, kind=kind, shape=MAYBE, thing=("right", (0,)))
        self.tells_both(("right", (0,)), folded, kind=kind, shape=MAYBE, thing=(1, (0,)))
        self.refused_both(NoThing, flattened, kind=kind, shape=MAYBE, thing=("left", (0,)))
        self.refused_both(NoThing, folded, kind=kind, shape=MAYBE, thing=(0, (0,)))


if __name__ == "__main__":
    unittest.main()
