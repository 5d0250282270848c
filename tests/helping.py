"""What several test files use: great numbers, odd things, and how a refusal is checked."""

import time
import unittest
from itertools import product

from boughswap.kinds import Kind

# Sixty figures each.
GREAT = 10 ** 60 - 1
OTHER_GREAT = 123456789 * 10 ** 51 + 987654321
GREATS = [GREAT, -GREAT, OTHER_GREAT, -OTHER_GREAT, 10 ** 59, -(10 ** 59)]


class Sulky:
    """An object that can't be hashed and answers no question of Python's."""

    def _refuse(self, *told):
        raise AssertionError("a sulky thing was asked")

    __eq__ = __ne__ = __lt__ = __le__ = __gt__ = __ge__ = _refuse
    __bool__ = __len__ = __iter__ = __getitem__ = __contains__ = __int__ = __index__ = _refuse
    __add__ = __radd__ = __sub__ = __rsub__ = __mul__ = __rmul__ = _refuse
    __hash__ = None


def no_wholes():
    """Things of many sorts, none of them a whole number."""
    return [
        True, False, None, "", "7", "one", b"7", 0.0, 1.0, 2.5, float("nan"), 1j, (), (7,), [], [7],
        {}, {7: 7}, set(), {7}, frozenset([7]), range(3), int, object(), len, Sulky(),
    ]


def spread(many, seed):
    """Many whole numbers of either sign, of few and of sixty figures, the same at each call."""
    out = []
    state = seed
    for _ in range(many):
        state = (state * 6364136223846793005 + 1442695040888963407) % 2 ** 64
        size = [3, 20, 2 ** 40, 10 ** 60 - 1][state >> 62]
        out.append((state * 982451653 ** 8) % (2 * size + 1) - size)
    return out


def odd_numbers():
    """What is no list or tuple of whole numbers."""
    others = [thing for thing in no_wholes() if not isinstance(thing, (list, tuple))]
    out = others + [0, 1, -7, GREAT, "12", b"12", {1: 2}, {1, 2}, range(3), iter([1, 2]), zip([1], [2])]
    for thing in no_wholes():
        for numbers in ([thing], [thing, 1], [1, thing], [1, thing, 2], [1, 2, thing], [0, thing, 0]):
            out.append(numbers)
            out.append(tuple(numbers))
    return out


def no_polys():
    """What is no polynomial."""
    noughts = [(0,), (0, 0), (1, 0), (1, 2, 0), (1, 0, 0), (GREAT, 0), (0, -1, 0)]
    return odd_numbers() + noughts + [[], [1], [1, 2], [0]]


def some_polys():
    out = [(), (1,), (-1,), (7,), (0, 1), (0, 0, -3), (1, -1, 1), (2, 0, 0, 5), (GREAT,), (0, -GREAT)]
    for many in (2, 3, 5, 9):
        out.append(tuple(spread(many, many)) + (OTHER_GREAT,))
        out.append(tuple(spread(many, many + 20)) + (-1,))
    return out


class Checks(unittest.TestCase):
    """Test cases that ask more of an answer than that it is equal."""

    def refused(self, error, call, *told, **named):
        """The call is refused with this very class, not with one below it."""
        with self.assertRaises(error) as caught:
            call(*told, **named)
        self.assertIs(caught.exception.__class__, error)

    def tells(self, expected, answer):
        """The answer is equal, and made of the same sorts throughout: 1 is not True, () not []."""
        self.assertEqual(expected, answer)
        self.assertEqual(sorts_of(expected), sorts_of(answer))

    def tells_both(self, expected, call, **named):
        """The same is told to arguments by their places, as they stand here, and by names, turned round."""
        self.tells(expected, call(*named.values()))
        self.tells(expected, call(**dict(reversed(list(named.items())))))

    def refused_both(self, error, call, **named):
        self.refused(error, call, *named.values())
        self.refused(error, call, **dict(reversed(list(named.items()))))

    def quick(self, call, *told):
        """What the call tells, which takes well under a second."""
        start = time.monotonic()
        answer = call(*told)
        self.assertLess(time.monotonic() - start, 1)
        return answer


def sorts_of(thing):
    if isinstance(thing, (tuple, list)):
        return (type(thing), [sorts_of(part) for part in thing])
    return type(thing)


TIP_FORK = [("tip", 0), ("fork", 2)]
FORK_TIP = [("fork", 2), ("tip", 0)]
LINES = [("line", 1), ("tri", 3), ("dot", 0)]
LEAVES = [("quad", 4), ("oak", 0), ("ash", 0), ("pair", 2)]
FIVE = [("none", 0), ("one", 1), ("two", 2), ("three", 3), ("four", 4)]
PAIRS = [("v", 2), ("w", 2), ("x", 1), ("y", 1), ("z", 0)]
ALL_MAKERS = [TIP_FORK, FORK_TIP, LINES, LEAVES, FIVE, PAIRS]


def tip_fork():
    return Kind(list(TIP_FORK))


def some_kinds():
    return [Kind(list(makers)) for makers in ALL_MAKERS]


def parts_of(makers, tree, start=0):
    """The trees within the tree that begins at start, and where it ends; None and None where none begins."""
    if start >= len(tree):
        return None, None
    parts = []
    end = start + 1
    for _ in range(makers[tree[start]][1]):
        _, stop = parts_of(makers, tree, end)
        if stop is None:
            return None, None
        parts.append(tree[end:stop])
        end = stop
    return parts, end


class Forest:
    """All trees, rows and things of small sizes, found by trying all tuples, in the order that the document tells."""

    def __init__(self, makers):
        self.makers = makers
        self.sizes = {}

    def trees(self, size):
        if size not in self.sizes:
            found = [row for row in product(range(len(self.makers)), repeat=size)
                     if parts_of(self.makers, row)[1] == size]
            self.sizes[size] = sorted(found, key=self.tree_key)
        return self.sizes[size]

    def tree_key(self, tree):
        return (tree[0],) + self.row_key(parts_of(self.makers, tree)[0])

    def row_key(self, parts):
        sizes = tuple([len(part) for part in parts])
        return (sizes, tuple([self.trees(len(part)).index(part) for part in parts]))

    def rows(self, many, size):
        """The rows of so many trees, each a list of them, in order."""
        out = []
        for sizes in product(range(1, size + 1), repeat=many):
            if sum(sizes) == size:
                out.extend([list(parts) for parts in product(*[self.trees(own) for own in sizes])])
        return sorted(out, key=self.row_key)

    def things(self, rack, size):
        """The things of a size, in order."""
        return [(place, joined(parts)) for place, many in enumerate(rack) for parts in self.rows(many, size)]

    def things_up_to(self, rack, size):
        return [thing for own in range(size + 1) for thing in self.things(rack, own)]


def joined(parts):
    return tuple([number for part in parts for number in part])


def no_tuples():
    """Things of many sorts, none of them a tuple."""
    return [thing for thing in no_wholes() if not isinstance(thing, tuple)] + [0, 1, -1, GREAT]


def no_racks():
    """What is no rack."""
    out = no_tuples() + [[1], [0, 2], (0,) * 4001, (1,) * 4001, (201,), (-1,), (1, 2, -1), (0, 201, 0), ((1,),),
                         (GREAT,)]
    for thing in no_wholes():
        out.extend([(thing,), (1, thing), (thing, 1)])
    return out


def no_things():
    """What is no thing of any rack, of whatever kind of two makers or more."""
    out = no_tuples() + [(), (0,), (0, (), ()), (0, [0]), (0, 0), (0, None), (0, "0"), [0, (0,)], ("0", (0,)),
                         ((0,), 0)]
    for thing in no_wholes():
        out.extend([(thing, (0,)), (thing, ()), (0, (thing,)), (0, (0, thing))])
        if not isinstance(thing, tuple):
            out.append((0, thing))
    return out
