"""Whole numbers and their bounds."""


def is_whole(thing, low, high):
    """True where the thing is a whole number from low to high; None: no such bound."""
    # Python counts truths among the ints; they are no whole numbers here.
    if isinstance(thing, bool) or not isinstance(thing, int):
        return False
    if low is not None and thing < low:
        return False
    return high is None or thing <= high
