"""Racks, rows of forms, and their things; racks put beside each other and multiplied."""

from boughswap.errors import NoRack, NoThing, TooMuch
from boughswap.trees import parts_in, row_of, trees_in
from boughswap.wholes import is_whole

MOST_FORMS = 4000
MOST_TREES = 200


def is_rack(thing):
    """True where the thing is a rack."""
    if not isinstance(thing, tuple) or len(thing) > MOST_FORMS:
        return False
    return all([is_whole(form, 0, MOST_TREES) for form in thing])


def rack_poly(rack):
    """The polynomial with, at place k, how many forms have k trees."""
    need_rack(rack)
    numbers = [0] * (max(rack, default=-1) + 1)
    for form in rack:
        numbers[form] += 1
    return tuple(numbers)


def has_trees(rack):
    """Whether a form of the rack has trees."""
    need_rack(rack)
    return max(rack, default=0) > 0


def is_thing(kind, rack, thing):
    """True where the thing is one of the rack."""
    need_rack(rack)
    return is_row_at(kind, rack, 0, thing)


def is_row_at(kind, rack, low, thing):
    """True where the thing is a place and a row of numbers from low on, of as many parts as the form has trees."""
    if not isinstance(thing, tuple) or len(thing) != 2:
        return False
    place, row = thing
    if not is_whole(place, 0, len(rack) - 1):
        return False
    parts = parts_in(kind, low, row)
    return parts is not None and len(parts) == rack[place]


def trees_of(kind, rack, thing):
    """The list of the trees of a thing."""
    need_thing(kind, rack, thing)
    return trees_in(kind, thing[1])


def put_beside(one, two):
    """The rack of the forms of one, then those of two."""
    need_rack(one)
    need_rack(two)
    return _fitting(one + two)


def put_left(kind, one, two, thing):
    """A thing of one as a thing of both put beside."""
    put_beside(one, two)
    need_thing(kind, one, thing)
    return thing


def put_right(kind, one, two, thing):
    """A thing of two as a thing of both put beside."""
    put_beside(one, two)
    need_thing(kind, two, thing)
    place, row = thing
    return (len(one) + place, row)


def side_of(kind, one, two, thing):
    """The tuple ("left", thing) or ("right", thing) of which a thing of both comes."""
    need_thing(kind, put_beside(one, two), thing)
    place, row = thing
    if place < len(one):
        return ("left", thing)
    return ("right", (place - len(one), row))


def put_times(one, two):
    """The rack of a form for each form of one and each of two, with the trees of both."""
    need_rack(one)
    need_rack(two)
    # Asked ahead, as millions of forms may come of two racks.
    if len(one) * len(two) > MOST_FORMS:
        raise TooMuch("a rack has at most 4,000 forms")
    return _fitting(tuple([form + other for form in one for other in two]))


def paired(kind, one, two, thing, other):
    """The thing of both multiplied with the trees of a thing of one, then of a thing of two."""
    put_times(one, two)
    need_thing(kind, one, thing)
    need_thing(kind, two, other)
    place = thing[0] * len(two) + other[0]
    return (place, thing[1] + other[1])


def unpaired(kind, one, two, thing):
    """The tuple (thing, other) of which a thing of both multiplied comes."""
    trees = trees_of(kind, put_times(one, two), thing)
    place, other = divmod(thing[0], len(two))
    many = one[place]
    return ((place, row_of(trees[:many])), (other, row_of(trees[many:])))


def forms_fit(forms):
    """True where forms, a tuple of whole numbers from 0 on, are not too many or too great for a rack."""
    return len(forms) <= MOST_FORMS and max(forms, default=0) <= MOST_TREES


def need_rack(thing):
    """Refuses what is no rack."""
    if not is_rack(thing):
        raise NoRack("a rack is a tuple of at most 4,000 whole numbers from 0 to 200")


def need_thing(kind, rack, thing):
    """Refuses what is no rack, and what is no thing of it."""
    if not is_thing(kind, rack, thing):
        raise NoThing("this is no thing of the rack")


def _fitting(forms):
    if not forms_fit(forms):
        raise TooMuch("a rack has at most 4,000 forms, each of at most 200 trees")
    return forms
