"""Racks with trees as numbers, alike ones as equal: one, what is wanting, powers, and what comes again."""

from boughswap.counts import need_size, row_counts
from boughswap.decide import are_alike
from boughswap.errors import NoNumber, NoTrees
from boughswap.noughts import contrary_of, nought_of
from boughswap.racks import has_trees, need_rack, put_beside, put_times
from boughswap.wholes import is_whole

MOST_TIMES = 12
MOST_AGAIN = 60


def unit_of(kind):
    """The rack that, multiplied with any rack with trees, is alike to it."""
    return put_beside((0,), nought_of(kind))


def wanting(kind, one, two):
    """The rack, its forms rising, that put beside one is alike to two."""
    need_rack(one)
    if not has_trees(two):
        raise NoTrees("nothing put beside comes to a rack without trees")
    return tuple(sorted(put_beside(two, contrary_of(kind, one))))


def power_of(rack, many):
    """The rack multiplied with itself, so many of it."""
    need_rack(rack)
    if not is_whole(many, 1, MOST_TIMES):
        raise NoNumber("one to twelve racks are multiplied")
    power = rack
    for _ in range(many - 1):
        power = put_times(power, rack)
    return power


def comes_again(kind, most):
    """The least tuple (i, j), by j, then i, such that i trees are alike to j, up to most; None where there is none."""
    if not is_whole(most, 2, MOST_AGAIN):
        raise NoNumber("forms of two to sixty trees are looked at")
    # As the gap's number of no power is not 0, what is alike stays so with one tree less in each
    # form, as long as both have trees: so the least j comes with 1.
    for many in range(2, most + 1):
        if are_alike(kind, (1,), (many,)):
            return (1, many)
    return None


def count_to(kind, rack, size):
    """How many things of the rack have at most this size."""
    need_rack(rack)
    need_size(size)
    counts = row_counts(kind, min(max(rack, default=0), size), size)
    # A row of more trees than the size has more numbers.
    return sum([sum(counts[form]) for form in rack if form <= size])
