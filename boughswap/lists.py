"""The things of a rack of each size, counted and in order."""

from boughswap.counts import need_size, number_of_row, row_at, row_counts
from boughswap.errors import NoNumber
from boughswap.racks import need_rack, need_thing
from boughswap.wholes import is_whole


def how_many_things(kind, rack, size):
    """How many things of the rack have this size."""
    need_rack(rack)
    need_size(size)
    counts = _counts_for(kind, rack, size)
    return sum([_things_of_form(counts, form, size) for form in rack])


def thing_at(kind, rack, size, number):
    """The thing of this number among those of this size."""
    need_rack(rack)
    need_size(size)
    if not is_whole(number, 0, None):
        raise NoNumber("things are numbered by whole numbers from 0 on")
    counts = _counts_for(kind, rack, size)
    for place, form in enumerate(rack):
        many = _things_of_form(counts, form, size)
        if number < many:
            return (place, row_at(kind, counts, form, size, number))
        number -= many
    raise NoNumber("no thing of this size has this number")


def number_of_thing(kind, rack, thing):
    """The number of a thing among those of its size."""
    need_thing(kind, rack, thing)
    place, row = thing
    size = len(row)
    need_size(size)
    counts = _counts_for(kind, rack, size)
    ahead = sum([_things_of_form(counts, form, size) for form in rack[:place]])
    return ahead + number_of_row(kind, counts, row)


def _counts_for(kind, rack, size):
    # A row of more trees than its size has numbers is none, so it isn't counted.
    return row_counts(kind, min(max(rack, default=0), size), size)


def _things_of_form(counts, form, size):
    if form > size:
        return 0
    return counts[form][size]
