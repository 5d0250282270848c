"""Fractions: tuples (top, bottom) in lowest terms, bottom from 1 on."""

from math import gcd

from boughswap.errors import NoFraction
from boughswap.wholes import is_whole


def fraction(top, bottom=1):
    """The fraction of top and bottom, of either sign, in lowest terms."""
    if not is_whole(top, None, None) or not is_whole(bottom, None, None):
        raise NoFraction("top and bottom of a fraction are whole numbers")
    if bottom == 0:
        raise NoFraction("the bottom of a fraction is not 0")
    common = gcd(top, bottom)
    # The sign moves to the top: divided by a negative number both turn round.
    if bottom < 0:
        common = -common
    return (top // common, bottom // common)


def is_fraction(thing):
    """True where the thing is a fraction in lowest terms."""
    if not isinstance(thing, tuple) or len(thing) != 2:
        return False
    top, bottom = thing
    if not is_whole(top, None, None) or not is_whole(bottom, 1, None):
        return False
    return gcd(top, bottom) == 1


def plus(one, other):
    """The sum of two fractions."""
    _need_fractions(one, other)
    return fraction(one[0] * other[1] + other[0] * one[1], one[1] * other[1])


def minus(one, other):
    """One less other."""
    _need_fractions(one, other)
    return fraction(one[0] * other[1] - other[0] * one[1], one[1] * other[1])


def times(one, other):
    """The product of two fractions."""
    _need_fractions(one, other)
    return fraction(one[0] * other[0], one[1] * other[1])


def shared(one, other):
    """The quotient of one by other, which is not nought."""
    _need_fractions(one, other)
    # An other of nought makes a bottom of 0, which fraction refuses.
    return fraction(one[0] * other[1], one[1] * other[0])


def _need_fractions(one, other):
    if not is_fraction(one) or not is_fraction(other):
        raise NoFraction("a fraction is a tuple (top, bottom) in lowest terms")
