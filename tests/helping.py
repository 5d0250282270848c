"""What several test files use: great numbers, odd things, and how a refusal is checked."""

import unittest

# Sixty figures each.
GREAT = 10 ** 60 - 1
OTHER_GREAT = 123456789 * 10 ** 51 + 987654321
GREATS = [GREAT, -GREAT, OTHER_GREAT, -OTHER_GREAT, 10 ** 59, -(10 ** 59)]


class Sulky:
    """An object that can't be hashed and answers no question of Python's."""

    def _refuse(self, *told):
        raise AssertionError("a sulky thing was asked")

    __eq__ = __ne__ = __lt__ = __le__ = __gt__ = __ge__ = _refuse
    __bool__ = __len__ = __iter__ = __getitem__ = __contains__ = __int__ = __index__ = _refuse
    __add__ = __radd__ = __sub__ = __rsub__ = __mul__ = __rmul__ = _refuse
    __hash__ = None


def no_wholes():
    """Things of many sorts, none of them a whole number."""
    return [
        True, False, None, "", "7", "one", b"7", 0.0, 1.0, 2.5, float("nan"), 1j, (), (7,), [], [7],
        {}, {7: 7}, set(), {7}, frozenset([7]), range(3), int, object(), len, Sulky(),
    ]


def spread(many, seed):
    """Many whole numbers of either sign, of few and of sixty figures, the same at each call."""
    out = []
    state = seed
    for _ in range(many):
        state = (state * 6364136223846793005 + 1442695040888963407) % 2 ** 64
        size = [3, 20, 2 ** 40, 10 ** 60 - 1][state >> 62]
        out.append((state * 982451653 ** 8) % (2 * size + 1) - size)
    return out


def odd_numbers():
    """What is no list or tuple of whole numbers."""
    others = [thing for thing in no_wholes() if not isinstance(thing, (list, tuple))]
    out = others + [0, 1, -7, GREAT, "12", b"12", {1: 2}, {1, 2}, range(3), iter([1, 2]), zip([1], [2])]
    for thing in no_wholes():
        for numbers in ([thing], [thing, 1], [1, thing], [1, thing, 2], [1, 2, thing], [0, thing, 0]):
            out.append(numbers)
            out.append(tuple(numbers))
    return out


def no_polys():
    """What is no polynomial."""
    noughts = [(0,), (0, 0), (1, 0), (1, 2, 0), (1, 0, 0), (GREAT, 0), (0, -1, 0)]
    return odd_numbers() + noughts + [[], [1], [1, 2], [0]]


def some_polys():
    out = [(), (1,), (-1,), (7,), (0, 1), (0, 0, -3), (1, -1, 1), (2, 0, 0, 5), (GREAT,), (0, -GREAT)]
    for many in (2, 3, 5, 9):
        out.append(tuple(spread(many, many)) + (OTHER_GREAT,))
        out.append(tuple(spread(many, many + 20)) + (-1,))
    return out


class Checks(unittest.TestCase):
    """Test cases that ask more of an answer than that it is equal."""

    def refused(self, error, call, *told, **named):
        """The call is refused with this very class, not with one below it."""
        with self.assertRaises(error) as caught:
            call(*told, **named)
        self.assertIs(caught.exception.__class__, error)

    def tells(self, expected, answer):
        """The answer is equal, and made of the same sorts throughout: 1 is not True, () not []."""
        self.assertEqual(expected, answer)
        self.assertEqual(sorts_of(expected), sorts_of(answer))


def sorts_of(thing):
    if isinstance(thing, (tuple, list)):
        return (type(thing), [sorts_of(part) for part in thing])
    return type(thing)
