"""Polynomials: tuples of whole numbers, the number at place k with the k-th power."""

from itertools import zip_longest
from math import gcd

from boughswap.errors import NoNumber, NoPoly
from boughswap.ratios import fraction
from boughswap.wholes import is_whole

MOST_RAISED = 100


def is_poly(thing):
    """True where the thing is a polynomial."""
    if not isinstance(thing, tuple) or not _are_whole(thing):
        return False
    return len(thing) == 0 or thing[-1] != 0


def poly(numbers):
    """The polynomial of a list or tuple of whole numbers."""
    if not isinstance(numbers, (list, tuple)) or not _are_whole(numbers):
        raise NoPoly("a polynomial is made of a list or tuple of whole numbers")
    return _without_noughts(numbers)


def added(one, other):
    """The sum of two polynomials."""
    _need_poly(one)
    _need_poly(other)
    return _without_noughts([x + y for x, y in zip_longest(one, other, fillvalue=0)])


def taken_off(one, other):
    """One less other."""
    _need_poly(one)
    _need_poly(other)
    return _without_noughts([x - y for x, y in zip_longest(one, other, fillvalue=0)])


def multiplied(one, other):
    """The product of two polynomials."""
    _need_poly(one)
    _need_poly(other)
    numbers = [0] * (len(one) + len(other))
    for at, x in enumerate(one):
        for behind, y in enumerate(other):
            numbers[at + behind] += x * y
    return _without_noughts(numbers)


def raised(one, many):
    """The product of one with the many-th power."""
    _need_poly(one)
    if not is_whole(many, 0, MOST_RAISED):
        raise NoNumber("a polynomial is raised by a whole number from 0 to 100")
    # Nought stays (): noughts put ahead of it would be noughts at its end.
    if not one:
        return ()
    return (0,) * many + one


def worth_at(one, x):
    """The value of a polynomial at a whole number."""
    _need_poly(one)
    if not is_whole(x, None, None):
        raise NoNumber("a polynomial has a value at a whole number")
    worth = 0
    for number in reversed(one):
        worth = worth * x + number
    return worth


def ups(one):
    """The part of a polynomial whose numbers are above 0."""
    _need_poly(one)
    return _without_noughts([max(number, 0) for number in one])


def downs(one):
    """The part whose numbers are below 0, told without their signs."""
    _need_poly(one)
    return _without_noughts([max(-number, 0) for number in one])


def weight_of(one):
    """The sum of the sizes of a polynomial's numbers."""
    _need_poly(one)
    return sum([abs(number) for number in one])


def divided(one, other):
    """The tuple (quotient, rest), both tuples of fractions, of one by other."""
    _need_poly(one)
    _need_poly(other)
    if not other:
        raise NoPoly("nothing is divided by nought")
    # What is left is kept as whole numbers, scale times too great: sums of whole
    # numbers are far quicker than sums of fractions with long bottoms.
    left = one
    scale = 1
    falling = []
    while len(left) >= len(other):
        common = gcd(left[-1], other[-1])
        factor = other[-1] // common
        share = left[-1] // common
        scale *= factor
        falling.append(fraction(share, scale))
        left = _lead_taken_off(left, factor, share, other)
    rest = [fraction(number, scale) for number in _without_noughts(left)]
    return (tuple(falling[::-1]), tuple(rest))


def whole_quotient(one, other):
    """The polynomial whose product with other is one, or None where there is none."""
    quotient, rest = divided(one, other)
    if rest or any([bottom != 1 for top, bottom in quotient]):
        return None
    return tuple([top for top, bottom in quotient])


def _lead_taken_off(left, factor, share, other):
    """Factor times left, less share times other under its end; the last number, now 0, left out."""
    ahead = len(left) - len(other)
    numbers = [number * factor for number in left[:ahead]]
    for x, y in zip(left[ahead:-1], other):
        numbers.append(x * factor - y * share)
    return numbers


def _are_whole(things):
    return all([is_whole(thing, None, None) for thing in things])


def _need_poly(thing):
    if not is_poly(thing):
        raise NoPoly("a polynomial is a tuple of whole numbers, the last of them not 0")


def _without_noughts(numbers):
    many = len(numbers)
    while many > 0 and numbers[many - 1] == 0:
        many -= 1
    return tuple(numbers[:many])
