"""Patterns: things in whose rows holes stand for trees."""

from boughswap.errors import NoNumber, NoPattern
from boughswap.racks import is_row_at, need_rack, need_thing
from boughswap.trees import HOLE


def is_pattern(kind, rack, thing):
    """True where the thing is a pattern of the rack."""
    need_rack(rack)
    return is_row_at(kind, rack, HOLE, thing)


def holes_of(pattern):
    """How many holes a pattern has."""
    return pattern[1].count(HOLE)


def filled(pattern, trees):
    """The tuple (place, row) of a pattern with trees in its holes, from left to right."""
    if len(trees) != holes_of(pattern):
        raise NoNumber("a pattern is filled with as many trees as it has holes")
    place, row = pattern
    out = []
    used = 0
    for number in row:
        if number == HOLE:
            out.extend(trees[used])
            used += 1
        else:
            out.append(number)
    return (place, tuple(out))


def matched(kind, rack, pattern, thing):
    """The list of the trees that stand in the pattern's holes, or None where it isn't the thing."""
    if not is_pattern(kind, rack, pattern):
        raise NoPattern("this is no pattern of the rack")
    need_thing(kind, rack, thing)
    return trees_at_holes(kind, pattern, thing)


def trees_at_holes(kind, pattern, thing):
    """Likewise of what is a pattern and what is a thing."""
    place, row = thing
    if place != pattern[0]:
        return None
    trees = []
    at = 0
    for number in pattern[1]:
        # The thing may be of another rack than the pattern, and have fewer trees.
        if at >= len(row):
            return None
        if number == HOLE:
            end = _end_of_tree(kind, row, at)
            trees.append(row[at:end])
            at = end
        elif number == row[at]:
            at += 1
        else:
            return None
    return trees if at == len(row) else None


def _end_of_tree(kind, row, start):
    """Where the tree that begins at start ends."""
    withins = kind.withins()
    end = start
    wanted = 1
    while wanted > 0:
        wanted += withins[row[end]] - 1
        end += 1
    return end
