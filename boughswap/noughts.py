"""Noughts: racks that, put beside others with trees, are alike to nothing put beside."""

from boughswap.errors import NoNumber, NoTrees
from boughswap.racks import has_trees, need_rack, put_times
from boughswap.steps import all_undone
from boughswap.turnings import Turning
from boughswap.ways import Way
from boughswap.wholes import is_whole

MOST_NOUGHTS = 60
MOST_MORE = 40
MOST_REACHED = 60


def nought_of(kind):
    """The rack, its forms rising, that any form with trees, opened again and again, leaves beside itself."""
    leaf = kind.first_leaf()
    wide = kind.first_wide()
    withins = kind.withins()
    forms = withins[:wide] + withins[wide + 1:]
    for trees in range(1, withins[wide]):
        forms.extend([trees + many for many in withins[:leaf] + withins[leaf + 1:]])
    return tuple(sorted(forms))


def undoing_of(kind):
    """The rack of nought_of with one form of no trees less."""
    # The forms rise, and that of the first leaf has no trees.
    return nought_of(kind)[1:]


def grown_from_one(kind):
    """A turning from the rack of one tree to that rack with nought_of put beside."""
    return grown_by(kind, (1,), [0])


def grown_by(kind, rack, more):
    """A turning from the rack to the rack with, for each number, the forms of nought_of with so many trees more."""
    need_rack(rack)
    if not _are_numbers(more):
        raise NoNumber("at most sixty whole numbers from 0 to 40 are told in a list")
    _need_trees(rack)
    return Turning(kind, rack, growing_steps(kind, rack, more))


def contrary_of(kind, rack):
    """The rack, its forms rising, that undoes the rack put beside it."""
    return tuple(sorted(put_times(rack, undoing_of(kind))))


def reach_to(kind, rack, many):
    """A turning from the rack to one whose last form has so many trees."""
    need_rack(rack)
    if not is_whole(many, 1, MOST_REACHED):
        raise NoNumber("a form of one to sixty trees is reached")
    _need_trees(rack)
    start = _nearest(rack, many)
    makers = _makers_along(kind, rack[start], [many], [])
    way = Way(kind, rack)
    way.go(_opens_along(start, makers))
    place = start + sum(makers)
    way.put(way.rack[:place] + way.rack[place + 1:] + (many,))
    return Turning(kind, rack, way.done)


def noughts_with(kind, more):
    """For each number the forms of nought_of with so many trees more, as one tuple."""
    return tuple([number + form for number in more for form in nought_of(kind)])


def growing_steps(kind, rack, more):
    """The steps of grown_by."""
    if not more:
        return []
    # A form of so many trees is opened, and comes back, to leave the nought with one fewer beside itself.
    heights = [number + 1 for number in more]
    start = _nearest(rack, max(heights))
    plain = Way(kind, rack)
    plain.go(_opens_along(start, _makers_along(kind, rack[start], heights, [])))
    way = Way(kind, rack)
    way.go(_opens_along(start, _makers_along(kind, rack[start], heights, heights)))
    # The noughts put behind all, the forms stand as if the way had gone by no round, so it can be undone.
    way.put(plain.rack + noughts_with(kind, more))
    way.go(all_undone(plain.done))
    return way.done


def _makers_along(kind, form, heights, rounds):
    """The makers of whose trees forms are opened, from a form up to the greatest height, then down to the least.

    On the way down it goes round, up and back, at each height as often as that stands in rounds.
    """
    leaf = kind.first_leaf()
    wide = kind.first_wide()
    rise = kind.within(wide) - 1
    a_round = [wide] + [leaf] * rise
    makers = []
    while form < max(heights):
        makers.append(wide)
        form += rise
    while form > min(heights):
        makers.extend(a_round * rounds.count(form))
        makers.append(leaf)
        form -= 1
    return makers + a_round * rounds.count(form)


def _opens_along(place, makers):
    """Open steps, from the form at this place on, each of the form of the maker told ahead of it."""
    steps = []
    for maker in makers:
        steps.append(("open", place, 0))
        place += maker
    return steps


def _nearest(rack, height):
    """The place of a form with trees, as near to so many as there is."""
    places = [place for place, form in enumerate(rack) if form > 0]
    return min(places, key=lambda at: abs(rack[at] - height))


def _need_trees(rack):
    if not has_trees(rack):
        raise NoTrees("no form of the rack has trees")


def _are_numbers(things):
    if not isinstance(things, list) or len(things) > MOST_NOUGHTS:
        return False
    return all([is_whole(thing, 0, MOST_MORE) for thing in things])
