"""Trees of a kind: tuples of makers' numbers, and rows of them."""

from boughswap.errors import NoTree
from boughswap.wholes import is_whole

# Stands in a pattern where a whole tree is left out.
HOLE = -1


def is_tree(kind, thing):
    """True where the thing is a tree of the kind."""
    trees = trees_in(kind, thing)
    return trees is not None and len(trees) == 1


def trees_in(kind, row):
    """The list of the trees of which a tuple is a row, or None for any other thing."""
    return parts_in(kind, 0, row)


def parts_in(kind, low, row):
    """Likewise of a row of numbers from low on: 0, or HOLE where holes may stand among trees and within."""
    if not _are_numbers(kind, low, row):
        return None
    return parts_of(kind, row)


def parts_of(kind, row):
    """The list of the trees and holes of a tuple of their numbers, or None where it ends within one."""
    # A hole's number finds the last of these: no tree stands within a hole.
    withins = kind.withins() + [0]
    trees = []
    start = 0
    # How many trees are still to come before the one from start on is whole.
    wanted = 1
    for at, maker in enumerate(row):
        wanted += withins[maker] - 1
        if wanted == 0:
            trees.append(row[start:at + 1])
            start = at + 1
            wanted = 1
    if start < len(row):
        return None
    return trees


def row_of(trees):
    """The row of a list of trees."""
    return tuple([maker for tree in trees for maker in tree])


def deep_of(kind, tree):
    """How many makers of a tree stand at most one within the other."""
    need_tree(kind, tree)
    withins = kind.withins()
    # From right to left the trees within a maker are behind it, and measured already.
    deeps = []
    for maker in reversed(tree):
        deep = 0
        for _ in range(withins[maker]):
            deep = max(deep, deeps.pop())
        deeps.append(deep + 1)
    return deeps[0]


def leaf_tree(kind):
    """The tree of the first maker with no trees within."""
    return (kind.first_leaf(),)


def need_tree(kind, thing):
    """Refuses what is no tree of the kind."""
    if not is_tree(kind, thing):
        raise NoTree("this is no tree of the kind")


def _are_numbers(kind, low, things):
    last = len(kind) - 1
    return isinstance(things, tuple) and all([is_whole(thing, low, last) for thing in things])
