"""The values that items with given bounds may have."""

from columnbounds.bounds import BOUND_BYTES, CUT, EXACT, OPEN


def first_value(bounds):
    """The least value that the least value may be."""
    lower = bounds.lower
    if lower.mark == CUT:
        return lower.value + [0]
    return lower.value


def last_value(kind, bounds):
    """The greatest value that the greatest value may be."""
    upper = bounds.upper
    if upper.mark == EXACT:
        return upper.value
    if upper.mark == OPEN:
        return [255] * kind.size
    start = upper.value[:-1] + [upper.value[-1] - 1]
    return start + [255] * (kind.size - len(start))


def stem(kind, bounds):
    """What the greatest text begins with, where the upper bound is raised or open."""
    return last_value(kind, bounds)[:BOUND_BYTES]


def may_be_greatest(kind, bounds, value):
    if bounds.upper.mark == EXACT:
        return value == bounds.upper.value
    return len(value) > BOUND_BYTES and value[:BOUND_BYTES] == stem(kind, bounds)
