"""Which racks are alike: shown by a turning, or by a division that shows that there is none."""

from boughswap.errors import NotAlike, TooLong
from boughswap.noughts import growing_steps, noughts_with
from boughswap.polys import divided, taken_off, weight_of, whole_quotient
from boughswap.racks import has_trees, need_rack, rack_poly
from boughswap.steps import all_undone
from boughswap.turnings import Turning
from boughswap.ways import Way

MOST_WEIGHT = 12


def quotient_of(kind, one, two):
    """The polynomial whose product with the gap is the polynomial of one less that of two, or None."""
    return whole_quotient(taken_off(rack_poly(one), rack_poly(two)), kind.gap())


def are_alike(kind, one, two):
    """True just where some row of steps leads from one to two."""
    return parting_paper(kind, one, two) is None


def parting_paper(kind, one, two):
    """None where the racks are alike, else what shows that they aren't."""
    need_rack(one)
    need_rack(two)
    if sorted(one) == sorted(two):
        return None
    # A rack without trees opens and closes into no other.
    if not has_trees(one):
        return ("fixed", "first")
    if not has_trees(two):
        return ("fixed", "second")
    if quotient_of(kind, one, two) is not None:
        return None
    quotient, rest = divided(taken_off(rack_poly(one), rack_poly(two)), kind.gap())
    return ("rest", quotient, rest)


def turning_between(kind, one, two):
    """A turning from one to two."""
    paper = parting_paper(kind, one, two)
    if paper is not None:
        raise NotAlike(paper)
    quotient = quotient_of(kind, one, two)
    if weight_of(quotient) > MOST_WEIGHT:
        raise TooLong(weight_of(quotient))
    return Turning(kind, one, _steps_between(kind, one, two, quotient))


def verdict_of(kind, one, two):
    """("alike", steps), ("parted", paper), or ("long", weight)."""
    paper = parting_paper(kind, one, two)
    if paper is not None:
        return ("parted", paper)
    weight = weight_of(quotient_of(kind, one, two))
    if weight > MOST_WEIGHT:
        return ("long", weight)
    return ("alike", turning_between(kind, one, two).steps())


def _steps_between(kind, one, two, quotient):
    """Steps from one to two, alike racks with this quotient."""
    way = Way(kind, one)
    lent = []
    left = _changes_of(kind, quotient)
    while left:
        ready = [change for change in left if not _lacking(way.rack, change[0])]
        if ready:
            _do_change(way, ready[0][0])
            left.remove(ready[0])
        else:
            # What lacks is lent by a nought, which is given back when all is done.
            number = _lender_of(_lacking(way.rack, left[0][0]), left[0][1])
            way.go(growing_steps(kind, way.rack, [number]))
            lent.append(number)
    way.put(two + noughts_with(kind, lent))
    way.go(all_undone(growing_steps(kind, two, lent)))
    return way.done


def _changes_of(kind, quotient):
    """The opens and closes that the quotient asks for, each a tuple (forms taken, forms given)."""
    changes = []
    for power, number in enumerate(quotient):
        closed = (power + 1,)
        opened = tuple([power + many for many in kind.withins()])
        change = (opened, closed) if number > 0 else (closed, opened)
        changes.extend([change] * abs(number))
    return changes


def _do_change(way, taken):
    """Opens the form taken, or closes the forms taken."""
    if len(taken) == 1:
        way.go([("open", way.rack.index(taken[0]), 0)])
        return
    many = len(taken)
    places = [place for place in range(len(way.rack)) if way.rack[place:place + many] == taken]
    if not places:
        way.put(taken + _without(way.rack, taken))
        places = [0]
    way.go([("close", places[0], 0)])


def _lender_of(lacking, given):
    """How many trees more the nought has that lends the forms that lack."""
    # Any nought has a form of no trees, so moved up it lends any one form. Several lack of a close
    # alone: the nought at its power lends all of them but that of the first wide maker.
    if len(lacking) == 1:
        return lacking[0]
    return given[0] - 1


def _lacking(rack, forms):
    """Those of the forms that the rack has not, or not so often."""
    left = list(rack)
    out = []
    for form in forms:
        if form in left:
            left.remove(form)
        else:
            out.append(form)
    return out


def _without(rack, forms):
    """The rack without forms that it has."""
    left = list(rack)
    for form in forms:
        left.remove(form)
    return tuple(left)
