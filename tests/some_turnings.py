"""Turnings that several test files use."""

from boughswap.kinds import Kind
from boughswap.turnings import Turning


def swapped(many):
    """Places that put the last form first."""
    return tuple([many - 1] + list(range(many - 1)))


def some_turnings(makers):
    """Turnings with steps of each sort, of few forms."""
    kind = Kind(list(makers))
    more = len(makers) - 1
    last = max([within for name, within in makers])
    wide = [within for name, within in makers].index(last)
    there = [("open", 1, 0), ("order", swapped(3 + more)), ("open", 2 + wide, last), ("order", swapped(3 + 2 * more))]
    steps = [
        ((), [("order", ())]),
        ((1,), []),
        ((1,), [("open", 0, 0), ("open", wide, last - 1), ("close", wide, 0)]),
        ((1, 2, 0), there),
        ((0, 2), [("open", 1, 1), ("close", 1, 0), ("order", (1, 0)), ("open", 0, 0), ("order", swapped(2 + more))]),
        ((2, 1, 0), [("order", (1, 2, 0)), ("open", 2, 1), ("close", 2, 1), ("open", 0, 0), ("close", 0, 0)]),
    ]
    return [Turning(kind, rack, list(row)) for rack, row in steps]
