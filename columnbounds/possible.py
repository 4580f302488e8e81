"""The values that items with given bounds may have."""

from columnbounds.bounds import BOUND_BYTES, CUT, EXACT, OPEN
from columnbounds.stats import value_count


def first_value(bounds):
    """The least value that the least value may be."""
    lower = bounds.lower
    if lower.mark == CUT:
        return lower.value + [0]
    return lower.value


def last_value(kind, bounds):
    """The greatest value that the greatest value may be."""
    upper = bounds.upper
    if upper.mark == EXACT:
        return upper.value
    if upper.mark == OPEN:
        return [255] * kind.size
    start = upper.value[:-1] + [upper.value[-1] - 1]
    return start + [255] * (kind.size - len(start))


def stem(kind, bounds):
    """What the greatest text begins with, where the upper bound is raised or open."""
    return last_value(kind, bounds)[:BOUND_BYTES]


def goes_on_from(eight, value):
    """Whether a value is a text that was too long for a bound, and had these first bytes."""
    return len(value) > BOUND_BYTES and value[:BOUND_BYTES] == eight


def may_be_least(bounds, value):
    if bounds.lower.mark == EXACT:
        return value == bounds.lower.value
    return goes_on_from(bounds.lower.value, value)


def may_be_greatest(kind, bounds, value):
    if bounds.upper.mark == EXACT:
        return value == bounds.upper.value
    return goes_on_from(stem(kind, bounds), value)


def may_be_among(kind, statistics, value):
    bounds = statistics.bounds
    many = value_count(statistics)
    if many == 0:
        return False
    if many == 1:
        return may_be_least(bounds, value) and may_be_greatest(kind, bounds, value)
    if many == 2:
        return may_be_least(bounds, value) or may_be_greatest(kind, bounds, value)
    return first_value(bounds) <= value <= last_value(kind, bounds)
