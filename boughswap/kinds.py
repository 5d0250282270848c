"""Kinds: by which makers trees are made."""

from boughswap.errors import NoKind, NoMaker
from boughswap.polys import taken_off
from boughswap.wholes import is_whole

SMALL_LETTERS = "abcdefghijklmnopqrstuvwxyz"
MOST_LETTERS = 8
FEWEST_MAKERS = 2
MOST_MAKERS = 5
MOST_WITHIN = 4


class Kind:
    """A rule by which trees are made: makers, each a tuple (name, trees within)."""

    def __init__(self, makers):
        if not _are_makers(makers):
            raise NoKind("a kind has two to five makers, one of no trees, one of two or more")
        self._makers = list(makers)

    def __eq__(self, other):
        return isinstance(other, Kind) and self._makers == other._makers

    def __len__(self):
        return len(self._makers)

    def makers(self):
        """The list of the makers, as it was handed in."""
        return list(self._makers)

    def name(self, maker):
        """The name of the maker of a number."""
        return self._maker(maker)[0]

    def within(self, maker):
        """How many trees stand within the maker of a number."""
        return self._maker(maker)[1]

    def withins(self):
        """How many trees stand within each maker."""
        return [many for name, many in self._makers]

    def number(self, name):
        """The number of the maker of a name."""
        if isinstance(name, str):
            for maker, (own, many) in enumerate(self._makers):
                if own == name:
                    return maker
        raise NoMaker("no maker has this name")

    def poly(self):
        """The polynomial with, at place k, how many makers have k trees within."""
        withins = self.withins()
        # The greatest number of trees ends it, so no nought stands at the end.
        return tuple([withins.count(many) for many in range(max(withins) + 1)])

    def gap(self):
        """The polynomial of the kind less the first power."""
        return taken_off(self.poly(), (0, 1))

    def first_leaf(self):
        """The least number of a maker with no trees within."""
        return self.withins().index(0)

    def first_wide(self):
        """The least number of a maker with two trees within, or more."""
        return [many >= 2 for many in self.withins()].index(True)

    def _maker(self, maker):
        if not is_whole(maker, 0, len(self._makers) - 1):
            raise NoMaker("no maker has this number")
        return self._makers[maker]


def is_name(thing):
    """True where the thing is a text of one to eight small letters."""
    if not isinstance(thing, str) or not 1 <= len(thing) <= MOST_LETTERS:
        return False
    return all([letter in SMALL_LETTERS for letter in thing])


def _are_makers(things):
    if not isinstance(things, list) or not FEWEST_MAKERS <= len(things) <= MOST_MAKERS:
        return False
    if not all([_is_maker(thing) for thing in things]):
        return False
    names = [name for name, many in things]
    withins = [many for name, many in things]
    return len(set(names)) == len(names) and 0 in withins and max(withins) >= 2


def _is_maker(thing):
    if not isinstance(thing, tuple) or len(thing) != 2:
        return False
    name, many = thing
    return is_name(name) and is_whole(many, 0, MOST_WITHIN)
