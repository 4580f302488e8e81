"""Statistics as bytes."""

from columnbounds.bounds import OPEN
from columnbounds.kinds import KIND_T


def short_bytes(number):
    written = []
    rest = number
    while rest >= 128:
        written.append(128 + rest % 128)
        rest = rest // 128
    written.append(rest)
    return written


def signed_bytes(number):
    if number >= 0:
        return short_bytes(2 * number)
    return short_bytes(-2 * number - 1)


def number_bounds_bytes(bounds):
    least = bounds.lower.value[0]
    greatest = bounds.upper.value[0]
    return signed_bytes(least) + short_bytes(greatest - least)


def text_bounds_bytes(bounds):
    lower = bounds.lower
    upper = bounds.upper
    written = [lower.mark + 2 * upper.mark, len(lower.value)] + lower.value
    if upper.mark == OPEN:
        return written
    return written + [len(upper.value)] + upper.value


def statistics_bytes(kind, statistics):
    counts = short_bytes(statistics.count) + short_bytes(statistics.gaps)
    if statistics.bounds is None:
        return counts
    if kind.code == KIND_T:
        return counts + text_bounds_bytes(statistics.bounds)
    return counts + number_bounds_bytes(statistics.bounds)
