"""Racks and kinds, picked here and there, the same at each run, and alike racks of a quotient."""

from random import Random

from boughswap.kinds import Kind
from helping import ALL_MAKERS

# Kinds with several makers of no trees, of one, of four; the last two have gaps with a common divisor.
MORE_MAKERS = ALL_MAKERS + [
    [("a", 4), ("b", 0)], [("a", 3), ("b", 0), ("c", 3)], [("p", 1), ("q", 4), ("r", 1), ("s", 0), ("t", 2)],
    [("u", 0), ("v", 0), ("w", 0), ("x", 0), ("y", 2)], [("a", 0), ("b", 4), ("c", 4), ("d", 4), ("e", 4)],
    [("a", 0), ("b", 0), ("c", 1), ("d", 2), ("e", 2)], [("a", 1), ("b", 4), ("c", 0), ("d", 0), ("e", 4)],
]


def more_kinds():
    return [Kind(list(makers)) for makers in MORE_MAKERS]


def times_gap(kind, numbers):
    """The numbers of the product with the gap, by the kind's makers alone."""
    out = [0] * (len(numbers) + 4)
    for power, number in enumerate(numbers):
        for _, within in kind.makers():
            out[power + within] += number
        out[power + 1] -= number
    return out


def racks_of(kind, numbers, more=()):
    """Racks with this quotient: one has the forms of what is above 0 of the product with the gap, two those below."""
    product = times_gap(kind, numbers)
    one = [power for power, number in enumerate(product) for _ in range(number)]
    two = [power for power, number in enumerate(product) for _ in range(-number)]
    return tuple(one) + tuple(more), tuple(two) + tuple(more)


def alike_pairs(kind, many, seed):
    """Many pairs of alike racks of at most forty forms of at most twelve trees, with weights up to twelve."""
    chance = Random(seed)
    highest = 12 - max([within for _, within in kind.makers()])
    out = []
    while len(out) < many:
        numbers = [0] * (highest + 1)
        signs = chance.choice([(1,), (-1,), (1, -1)])
        places = [chance.randrange(highest + 1) for _ in range(chance.randrange(1, 8))]
        for _ in range(chance.randrange(13)):
            numbers[chance.choice(places)] += chance.choice(signs)
        more = [chance.randrange(13) for _ in range(chance.choice([0, 0, 1, 4]))]
        one, two = racks_of(kind, numbers, more)
        if 0 < max(one, default=0) and 0 < max(two, default=0) and max(len(one), len(two)) <= 40:
            out.append((shuffled(chance, one), shuffled(chance, two), numbers))
    return out


def shuffled(chance, rack):
    return tuple(chance.sample(rack, len(rack)))
