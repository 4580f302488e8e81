"""Items that have given statistics."""

from columnbounds.possible import first_value, last_value, may_be_least
from columnbounds.stats import value_count


def values_with(kind, statistics, value):
    """The values of items that have these statistics; the value, which may be among them, is one."""
    many = value_count(statistics)
    if many == 1:
        return [value]
    first = first_value(statistics.bounds)
    last = last_value(kind, statistics.bounds)
    if many > 2:
        return [first, value] + [last] * (many - 2)
    if may_be_least(statistics.bounds, value):
        return [value, last]
    return [first, value]


def plain_values(kind, statistics):
    if statistics.bounds is None:
        return []
    return values_with(kind, statistics, first_value(statistics.bounds))
