"""The interface of boughswap/errors.py."""

import unittest

from boughswap import errors
from boughswap.errors import NoTurning, NotAlike, SwapError, TooLong

NAMES = [
    "NoFraction", "NoNumber", "NoPoly", "NoKind", "NoMaker", "NoTree", "NoRack", "NoThing", "NoShape",
    "NoStep", "NoTurning", "NoMatch", "NoPattern", "NoTrees", "NotAlike", "TooLong", "TooMuch",
    "NoText", "NoName", "NoRow",
]


class ErrorsTest(unittest.TestCase):

    def test_swap_error_stands_straight_under_value_error(self):
        self.assertEqual((ValueError,), SwapError.__bases__)

    def test_each_class_stands_straight_under_swap_error(self):
        for name in NAMES:
            with self.subTest(name):
                self.assertEqual((SwapError,), getattr(errors, name).__bases__)

    def test_the_classes_are_twenty_unlike_ones_defined_here(self):
        classes = [getattr(errors, name) for name in NAMES]
        self.assertEqual(20, len(set(classes)))
        for name, one in zip(NAMES, classes):
            self.assertEqual((name, "boughswap.errors"), (one.__name__, one.__module__))

    def test_none_but_these_stand_under_swap_error(self):
        under = [
            name for name, thing in vars(errors).items()
            if isinstance(thing, type) and issubclass(thing, SwapError) and thing is not SwapError
        ]
        self.assertEqual(sorted(NAMES), sorted(under))

    def test_each_is_raised_and_caught_by_its_name_alone(self):
        for name in NAMES:
            with self.subTest(name):
                one = getattr(errors, name)
                with self.assertRaises(one) as caught:
                    raise one("told")
                self.assertIs(one, type(caught.exception))
                for other in NAMES:
                    self.assertEqual(other == name, isinstance(caught.exception, getattr(errors, other)))

    def test_fields_by_places_and_by_names(self):
        paper = ("rest", ((1, 1),), ((-1, 1),))
        self.assertEqual(7, NoTurning(7).at)
        self.assertEqual(-1, NoTurning(at=-1).at)
        self.assertEqual(paper, NotAlike(paper).paper)
        self.assertEqual(("fixed", "first"), NotAlike(paper=("fixed", "first")).paper)
        self.assertEqual(13, TooLong(13).weight)
        self.assertEqual(14, TooLong(weight=14).weight)

    def test_fields_are_set_on_each_object(self):
        one, other = NoTurning(1), NoTurning(2)
        self.assertEqual((1, 2), (one.at, other.at))
        self.assertIn("at", vars(one))
        self.assertIn("paper", vars(NotAlike(("fixed", "second"))))
        self.assertIn("weight", vars(TooLong(99)))

    def test_fields_are_still_there_when_caught(self):
        with self.assertRaises(SwapError) as caught:
            raise NoTurning(3)
        self.assertEqual(3, caught.exception.at)
        with self.assertRaises(ValueError) as caught:
            raise TooLong(10 ** 5000)
        self.assertEqual(10 ** 5000, caught.exception.weight)
        self.assertIsInstance(str(caught.exception), str)


if __name__ == "__main__":
    unittest.main()
