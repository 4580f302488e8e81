"""Statistics of a row of items. They are never changed, only made anew, so parts of them may be shared."""

from columnbounds.bounds import bounds_of_value, merged_bounds

MOST_ITEMS = 1000000


class Statistics:
    """How many items and how many gaps there are, and the bounds (None if there is no value)."""

    def __init__(self, count, gaps, bounds):
        self.count = count
        self.gaps = gaps
        self.bounds = bounds


def no_items():
    return Statistics(0, 0, None)


def gaps_alone(times):
    return Statistics(times, times, None)


def same_value(kind, times, value):
    if times == 0:
        return no_items()
    return Statistics(times, 0, bounds_of_value(kind, value))


def value_count(statistics):
    return statistics.count - statistics.gaps


def merged(one, other):
    return Statistics(one.count + other.count, one.gaps + other.gaps, merged_bounds(one.bounds, other.bounds))
