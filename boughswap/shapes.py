"""Shapes, put together of none, one and tree, and the racks that they come to."""

from boughswap.errors import NoShape, NoThing
from boughswap.racks import need_thing, put_beside, put_times
from boughswap.trees import is_tree, row_of, trees_in

DEEPEST = 12
PLAIN_RACKS = {"none": (), "one": (0,), "tree": (1,)}


def is_shape(thing):
    """True where the thing is a shape."""
    return _is_shape(thing, DEEPEST)


def is_of(kind, shape, thing):
    """True where the thing is one of the shape."""
    _need_shape(shape)
    return _is_of(kind, shape, thing)


def flat_of(shape):
    """The rack of a shape."""
    _need_shape(shape)
    return _flat_parts(shape)[1]


def flattened(kind, shape, thing):
    """The thing of the shape's rack that a thing of the shape is."""
    _need_shape(shape)
    parts = _flat_parts(shape)
    if not _is_of(kind, shape, thing):
        raise NoThing("this is no thing of the shape")
    place, trees = _laid_flat(parts, thing)
    return (place, row_of(trees))


def folded(kind, shape, thing):
    """The thing of the shape that a thing of the shape's rack is."""
    _need_shape(shape)
    parts = _flat_parts(shape)
    need_thing(kind, parts[1], thing)
    place, row = thing
    return _folded(parts, place, trees_in(kind, row))


def _is_shape(thing, deep):
    """Whether the thing is a shape at most so deep."""
    if isinstance(thing, str):
        return thing in PLAIN_RACKS
    # Asked before the parts are looked at: a thing may be deeper than Python can follow.
    if not isinstance(thing, tuple) or len(thing) != 3 or deep < 2:
        return False
    word, a, b = thing
    if not isinstance(word, str) or word not in ("either", "both"):
        return False
    return _is_shape(a, deep - 1) and _is_shape(b, deep - 1)


def _need_shape(thing):
    if not is_shape(thing):
        raise NoShape("this is no shape")


def _is_of(kind, shape, thing):
    if shape == "tree":
        return is_tree(kind, thing)
    if not isinstance(thing, tuple):
        return False
    if isinstance(shape, str):
        return shape == "one" and len(thing) == 0
    if len(thing) != 2:
        return False
    word, a, b = shape
    first, second = thing
    if word == "both":
        return _is_of(kind, a, first) and _is_of(kind, b, second)
    if not isinstance(first, str) or first not in ("left", "right"):
        return False
    return _is_of(kind, a if first == "left" else b, second)


def _flat_parts(shape):
    """The tuple (word, rack, a, b) of a shape, a and b told likewise, None of a plain one."""
    if isinstance(shape, str):
        return (shape, PLAIN_RACKS[shape], None, None)
    word, a, b = shape
    one = _flat_parts(a)
    two = _flat_parts(b)
    rack = put_beside(one[1], two[1]) if word == "either" else put_times(one[1], two[1])
    return (word, rack, one, two)


def _laid_flat(parts, thing):
    """The tuple (place, trees) of a thing of the shape of these parts."""
    word, _, one, two = parts
    if word == "one":
        return (0, [])
    if word == "tree":
        return (0, [thing])
    first, second = thing
    if word == "both":
        place, trees = _laid_flat(one, first)
        other, more = _laid_flat(two, second)
        return (place * len(two[1]) + other, trees + more)
    if first == "left":
        return _laid_flat(one, second)
    place, trees = _laid_flat(two, second)
    return (len(one[1]) + place, trees)


def _folded(parts, place, trees):
    """The thing of the shape of these parts at a place of its rack, with a list of trees."""
    word, _, one, two = parts
    if word == "one":
        return ()
    if word == "tree":
        return trees[0]
    if word == "both":
        place, other = divmod(place, len(two[1]))
        many = one[1][place]
        return (_folded(one, place, trees[:many]), _folded(two, other, trees[many:]))
    if place < len(one[1]):
        return ("left", _folded(one, place, trees))
    return ("right", _folded(two, place - len(one[1]), trees))
