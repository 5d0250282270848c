"""The trees of each size, counted and in order."""

from boughswap.errors import NoNumber
from boughswap.kinds import MOST_WITHIN
from boughswap.trees import need_tree
from boughswap.wholes import is_whole

MOST_SIZE = 60


def how_many(kind, size):
    """How many trees have this size."""
    need_size(size)
    return row_counts(kind, 1, size)[1][size]


def tree_at(kind, size, number):
    """The tree of this number among those of this size."""
    need_size(size)
    counts = row_counts(kind, 1, size)
    if not is_whole(number, 0, counts[1][size] - 1):
        raise NoNumber("no tree of this size has this number")
    return row_at(kind, counts, 1, size, number)


def number_of(kind, tree):
    """The number of a tree among those of its size."""
    need_tree(kind, tree)
    need_size(len(tree))
    return number_of_row(kind, row_counts(kind, 1, len(tree)), tree)


def need_size(thing):
    """Refuses what is no size of which trees are counted."""
    if not is_whole(thing, 0, MOST_SIZE):
        raise NoNumber("a size is a whole number from 0 to 60")


def row_counts(kind, most, size):
    """At [k][s]: how many rows of k trees have s numbers, for k up to most and s up to size."""
    withins = kind.withins()
    # The trees themselves are counted by the rows that stand within their makers.
    counts = [[0] * (size + 1) for _ in range(max(most, MOST_WITHIN) + 1)]
    counts[0][0] = 1
    for whole in range(1, size + 1):
        counts[1][whole] = sum([counts[many][whole - 1] for many in withins])
        for many in range(2, min(len(counts) - 1, whole) + 1):
            counts[many][whole] = sum([
                counts[1][first] * counts[many - 1][whole - first] for first in range(1, whole)
            ])
    return counts


def row_at(kind, counts, many, size, number):
    """The row of this number among those of so many trees and of this size."""
    withins = kind.withins()
    out = []
    # The trees still to be written, the next one last.
    wanted = _parts_at(counts, many, size, number)[::-1]
    while wanted:
        size, number = wanted.pop()
        maker = 0
        while number >= counts[withins[maker]][size - 1]:
            number -= counts[withins[maker]][size - 1]
            maker += 1
        out.append(maker)
        wanted.extend(_parts_at(counts, withins[maker], size - 1, number)[::-1])
    return tuple(out)


def number_of_row(kind, counts, row):
    """The number of a row among those of as many trees and of its size."""
    withins = kind.withins()
    # From right to left the trees within a maker are behind it, and numbered already.
    parts = []
    for maker in reversed(row):
        within = [parts.pop() for _ in range(withins[maker])]
        size = 1 + sum([part[0] for part in within])
        ahead = sum([counts[many][size - 1] for many in withins[:maker]])
        parts.append((size, ahead + _number_of_parts(counts, within)))
    return _number_of_parts(counts, parts[::-1])


def _parts_at(counts, many, size, number):
    """The tuples (size, number) of the trees of the row of this number."""
    sizes = []
    ahead = 1
    for behind in reversed(range(many)):
        first = 1
        rows = ahead * counts[1][first] * counts[behind][size - first]
        while number >= rows:
            number -= rows
            first += 1
            rows = ahead * counts[1][first] * counts[behind][size - first]
        sizes.append(first)
        ahead *= counts[1][first]
        size -= first
    parts = []
    for own in reversed(sizes):
        parts.append((own, number % counts[1][own]))
        number //= counts[1][own]
    return parts[::-1]


def _number_of_parts(counts, parts):
    """The number of the row of trees of these tuples (size, number)."""
    size = sum([own for own, number in parts])
    behind = len(parts)
    ahead = 1
    out = 0
    last = 0
    for own, number in parts:
        behind -= 1
        for first in range(1, own):
            out += ahead * counts[1][first] * counts[behind][size - first]
        ahead *= counts[1][own]
        size -= own
        last = last * counts[1][own] + number
    return out + last
