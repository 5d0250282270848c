"""Tables: what a turning does to all things, told by patterns."""

from boughswap.errors import NoMatch, TooMuch
from boughswap.patterns import filled, holes_of, trees_at_holes
from boughswap.steps import led_by
from boughswap.trees import HOLE, leaf_tree, row_of
from boughswap.turnings import join

MOST_ROWS = 400


def table_of(turning):
    """The list of tuples (pattern, pattern): each thing of begin, and where it is led."""
    kind = turning.kind
    _need_few(turning.begin)
    # The second pattern is kept as its place and the list of its trees and holes.
    rows = []
    for place, form in enumerate(turning.begin):
        rows.append(((place, (HOLE,) * form), place, [(HOLE,)] * form))
    for step in turning.steps():
        if step[0] == "open":
            rows = [part for row in rows for part in _split(kind, step, row)]
            _need_few(rows)
        rows = [(first, led_by(kind, step, place, trees)) for first, place, trees in rows]
        rows = [(first, place, trees) for first, (place, trees) in rows]
    return [(first, (place, row_of(trees))) for first, place, trees in rows]


def by_table(kind, rows, thing):
    """Where the thing is led by the row whose first pattern, filled, it is; None without such a row."""
    for first, second in rows:
        trees = trees_at_holes(kind, first, thing)
        if trees is not None:
            return filled(second, trees)
    return None


def are_same(one, two):
    """Whether two turnings of one kind, begin and end lead each thing to the same."""
    return all([first == second for first, second in _there_and_back(one, two)])


def parting_thing(one, two):
    """A thing of begin that two turnings lead to unlike ones, or None where there is none."""
    for first, second in _there_and_back(one, two):
        if first != second:
            return filled(first, _parting_trees(one.kind, first, second))
    return None


def _need_few(rows):
    if len(rows) > MOST_ROWS:
        raise TooMuch("a table has at most 400 rows")


def _split(kind, step, row):
    """The rows to which a row gives way ahead of an open step; the row alone where no hole is opened."""
    _, at, slot = step
    first, place, trees = row
    if place != at or trees[slot] != (HOLE,):
        return [row]
    # Steps keep holes in their order, so this one has the same number from the left in both.
    number = row_of(trees[:slot]).count(HOLE)
    out = []
    for maker, many in enumerate(kind.withins()):
        part = (maker,) + (HOLE,) * many
        parts = [(HOLE,)] * holes_of(first)
        parts[number] = part
        out.append((filled(first, parts), place, trees[:slot] + [part] + trees[slot + 1:]))
    return out


def _there_and_back(one, two):
    """The table of one, then two's way back: each row of like patterns where they lead all alike."""
    if one.kind != two.kind or one.begin != two.begin or one.end != two.end:
        raise NoMatch("these turnings are of unlike kinds, begins or ends")
    return table_of(join(one, two.turned()))


def _parting_trees(kind, first, second):
    """Trees with which two unlike patterns, of as many holes, are filled to unlike things."""
    trees = [leaf_tree(kind)] * holes_of(first)
    if first[0] != second[0]:
        return trees
    at = [x == y for x, y in zip(first[1], second[1])].index(False)
    numbers = (first[1][at], second[1][at])
    # Where both are makers' numbers, the things differ there whatever fills the holes.
    if HOLE in numbers:
        trees[first[1][:at].count(HOLE)] = _tree_not_of(kind, max(numbers))
    return trees


def _tree_not_of(kind, maker):
    """A tree that doesn't begin with this maker."""
    if maker != kind.first_leaf():
        return leaf_tree(kind)
    wide = kind.first_wide()
    return (wide,) + leaf_tree(kind) * kind.within(wide)
