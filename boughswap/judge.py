"""The judge: whether a verdict, whoever made it, shows what it says of two racks."""

from boughswap.errors import NoTurning
from boughswap.polys import taken_off
from boughswap.racks import has_trees, need_rack, rack_poly
from boughswap.ratios import is_fraction, plus, times
from boughswap.turnings import Turning

NOUGHT = (0, 1)


def fault_of(kind, one, two, verdict):
    """None where the verdict is true of the two racks, else its first fault."""
    need_rack(one)
    need_rack(two)
    if not _is_verdict(verdict):
        return ("form",)
    word, told = verdict
    if word == "alike":
        return _fault_of_steps(kind, one, two, told)
    if told[0] == "fixed":
        return _fault_of_fixed(one, two, told[1])
    return _fault_of_rest(kind, one, two, told)


def _is_verdict(thing):
    if not _is_told(thing, 2):
        return False
    word, told = thing
    if word == "alike":
        return isinstance(told, list)
    return word == "parted" and (_is_fixed(told) or _is_rest(told))


def _is_fixed(thing):
    if not _is_told(thing, 2) or not isinstance(thing[1], str):
        return False
    return thing[0] == "fixed" and thing[1] in ("first", "second")


def _is_rest(thing):
    if not _is_told(thing, 3) or thing[0] != "rest":
        return False
    return _are_fractions(thing[1]) and _are_fractions(thing[2])


def _is_told(thing, many):
    """Whether the thing is a tuple of a word and as many parts in all."""
    return isinstance(thing, tuple) and len(thing) == many and isinstance(thing[0], str)


def _are_fractions(things):
    """Whether the things are a tuple of fractions, the last of them not nought."""
    if not isinstance(things, tuple) or not all([is_fraction(thing) for thing in things]):
        return False
    return len(things) == 0 or things[-1] != NOUGHT


def _fault_of_steps(kind, one, two, steps):
    try:
        end = Turning(kind, one, steps).end
    except NoTurning as refusal:
        return ("step", refusal.at)
    if end == two:
        return None
    for place in range(min(len(end), len(two))):
        if end[place] != two[place]:
            return ("end", place)
    return ("end", min(len(end), len(two)))


def _fault_of_fixed(one, two, word):
    if has_trees(one if word == "first" else two):
        return ("trees",)
    if sorted(one) == sorted(two):
        return ("same",)
    return None


def _fault_of_rest(kind, one, two, paper):
    _, quotient, rest = paper
    gap = kind.gap()
    less = taken_off(rack_poly(one), rack_poly(two))
    for power in range(max(len(quotient) + len(gap), len(rest), len(less))):
        told = plus(_product_at(quotient, gap, power), _number_at(rest, power, NOUGHT))
        if told != (_number_at(less, power, 0), 1):
            return ("sum", power)
    if len(rest) >= len(gap):
        return ("long",)
    if not rest and all([bottom == 1 for top, bottom in quotient]):
        return ("whole",)
    return None


def _product_at(quotient, gap, power):
    """The number of a power in the product of fractions with the gap."""
    total = NOUGHT
    for at, number in enumerate(gap):
        if at <= power:
            total = plus(total, times((number, 1), _number_at(quotient, power - at, NOUGHT)))
    return total


def _number_at(numbers, power, nought):
    return numbers[power] if power < len(numbers) else nought
