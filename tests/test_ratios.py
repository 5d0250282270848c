"""Point [5]: fractions."""

import unittest
from fractions import Fraction

from boughswap.errors import NoFraction
from boughswap.ratios import fraction, is_fraction, minus, plus, shared, times
from helping import GREAT, GREATS, OTHER_GREAT, Checks, Sulky, no_wholes, spread

SUMS = [plus, minus, times, shared]


def pair(number):
    return (number.numerator, number.denominator)


def no_fractions():
    """Things of many sorts, none of them a fraction."""
    return no_wholes() + [
        0, 1, -7, (1,), (1, 2, 3), (1, 0), (0, 0), (1, -2), (-1, -2), (0, -1), (2, 4), (-2, 4), (3, 3),
        (0, 2), (0, GREAT), (GREAT, GREAT), (True, 2), (False, 1), (1, True), (3, True), (1.0, 2), (1, 2.0),
        ("1", 2), (1, "2"), (None, 1), (1, None), ((1, 2), 1), (1, (1, 2)), [1, 2], [3, 1], "12", b"12",
        {1: 2, 3: 4}, {1, 2}, range(1, 3), ([], 1), (1, []), (Sulky(), 1), (1, Sulky()), (Sulky(), Sulky()),
        Fraction(1, 2),
    ]


def some_fractions():
    numbers = [0, 1, -1, 2, -3, 6, 10, -15, *GREATS, *spread(8, 5)]
    return [pair(Fraction(top, bottom)) for top in numbers for bottom in (1, 2, 6, 35, GREAT, OTHER_GREAT)]


class FractionTest(Checks):

    def test_lowest_terms_of_small_numbers_of_either_sign(self):
        self.tells((1, 2), fraction(1, 2))
        self.tells((1, 2), fraction(3, 6))
        self.tells((-1, 2), fraction(-3, 6))
        self.tells((-1, 2), fraction(3, -6))
        self.tells((1, 2), fraction(-3, -6))
        self.tells((5, 1), fraction(5, 1))
        self.tells((-5, 1), fraction(5, -1))
        self.tells((3, 1), fraction(12, 4))
        self.tells((4, 3), fraction(12, 9))

    def test_nought_has_the_bottom_one(self):
        for bottom in [1, -1, 2, -2, 60, *GREATS]:
            self.tells((0, 1), fraction(0, bottom))

    def test_bottom_left_out(self):
        for top in [0, 1, -1, 12, -12, *GREATS]:
            self.tells((top, 1), fraction(top))

    def test_against_python_fractions(self):
        numbers = [1, -1, 2, 12, -18, 97, *GREATS, GREAT // 9, *spread(12, 3)]
        for top in numbers + [0]:
            for bottom in numbers:
                if bottom != 0:
                    self.tells(pair(Fraction(top, bottom)), fraction(top, bottom))

    def test_what_is_told_is_a_fraction_and_may_be_handed_in_again(self):
        one = (1, 1)
        for bottom in [GREAT, OTHER_GREAT, -GREAT, 10 ** 59 + 7]:
            one = times(one, plus(fraction(1, bottom), one))
        self.assertTrue(one[1] > 10 ** 100)
        self.assertIs(True, is_fraction(one))
        self.tells(one, fraction(one[0], one[1]))
        self.tells((0, 1), minus(one, one))
        self.tells((1, 1), shared(one, one))

    def test_bottom_nought_is_refused(self):
        for top in [0, 1, -1, GREAT]:
            self.refused(NoFraction, fraction, top, 0)
        self.refused(NoFraction, fraction, bottom=0, top=3)

    def test_what_is_no_whole_number_is_refused_in_either_place(self):
        for thing in no_wholes():
            self.refused(NoFraction, fraction, thing)
            self.refused(NoFraction, fraction, thing, 1)
            self.refused(NoFraction, fraction, thing, 0)
            self.refused(NoFraction, fraction, 1, thing)
            self.refused(NoFraction, fraction, 0, thing)
            self.refused(NoFraction, fraction, thing, thing)

    def test_by_names(self):
        self.tells((-2, 3), fraction(bottom=-6, top=4))
        self.tells((4, 1), fraction(top=4))


class IsFractionTest(Checks):

    def test_fractions(self):
        for thing in [(0, 1), (1, 1), (-1, 1), (1, 2), (-1, 2), (7, 3), (-9, 4), (GREAT, 1), (1, GREAT)]:
            self.assertIs(True, is_fraction(thing), thing)
        self.assertIs(True, is_fraction((GREAT, GREAT - 1)))
        self.assertIs(True, is_fraction((-GREAT, 10 ** 59)))
        self.assertIs(True, is_fraction(thing=(3, 5)))

    def test_what_is_none(self):
        for thing in no_fractions():
            self.assertIs(False, is_fraction(thing))

    def test_what_is_not_in_lowest_terms(self):
        for common in [2, 3, 7, 10 ** 20]:
            for top, bottom in [(1, 2), (-1, 2), (1, 1), (-5, 3), (0, 1)]:
                self.assertIs(True, is_fraction((top, bottom)))
                self.assertIs(False, is_fraction((top * common, bottom * common)))


class SumsTest(Checks):

    def test_small_sums(self):
        self.tells((5, 6), plus((1, 2), (1, 3)))
        self.tells((1, 1), plus((1, 2), (1, 2)))
        self.tells((1, 6), minus((1, 2), (1, 3)))
        self.tells((-1, 6), minus((1, 3), (1, 2)))
        self.tells((1, 2), times((2, 3), (3, 4)))
        self.tells((8, 9), shared((2, 3), (3, 4)))
        self.tells((-8, 9), shared((2, 3), (-3, 4)))
        self.tells((8, 9), shared((-2, 3), (-3, 4)))
        self.tells((0, 1), shared((0, 1), (-3, 4)))
        self.tells((0, 1), minus((3, 4), (3, 4)))
        self.tells((0, 1), plus((3, 4), (-3, 4)))
        self.tells((0, 1), times((0, 1), (3, 4)))

    def test_against_python_fractions(self):
        for one in some_fractions()[::3]:
            for other in some_fractions()[::7]:
                first, second = Fraction(*one), Fraction(*other)
                self.tells(pair(first + second), plus(one, other))
                self.tells(pair(first - second), minus(one, other))
                self.tells(pair(first * second), times(one, other))
                if second:
                    self.tells(pair(first / second), shared(one, other))

    def test_by_names(self):
        self.tells((5, 6), plus(other=(1, 3), one=(1, 2)))
        self.tells((1, 6), minus(other=(1, 3), one=(1, 2)))
        self.tells((1, 6), times(other=(1, 3), one=(1, 2)))
        self.tells((3, 2), shared(other=(1, 3), one=(1, 2)))

    def test_shared_by_nought_is_refused(self):
        for one in [(0, 1), (1, 1), (-2, 3), (GREAT, 1)]:
            self.refused(NoFraction, shared, one, (0, 1))

    def test_what_is_no_fraction_is_refused_in_either_place_and_in_both(self):
        for thing in no_fractions():
            for call in SUMS:
                self.refused(NoFraction, call, thing, (1, 2))
                self.refused(NoFraction, call, (1, 2), thing)
                self.refused(NoFraction, call, (0, 1), thing)
                self.refused(NoFraction, call, thing, thing)
            self.refused(NoFraction, shared, thing, (0, 1))

    def test_asked_again_the_answer_is_the_same(self):
        for call in SUMS:
            self.assertEqual(call((3, 7), (-2, 5)), call((3, 7), (-2, 5)))


if __name__ == "__main__":
    unittest.main()
