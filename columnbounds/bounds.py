"""The lower and the upper bound of the values of a column."""

from columnbounds.kinds import KIND_T

EXACT = 0
CUT = 1
RAISED = 1
OPEN = 2

# So many bytes of a text stand in a bound at most.
BOUND_BYTES = 8


class Bound:
    """A bound's value (empty if it is open), and what it is: EXACT, CUT, RAISED or OPEN."""

    def __init__(self, mark, value):
        self.mark = mark
        self.value = value


class Bounds:
    def __init__(self, lower, upper):
        self.lower = lower
        self.upper = upper


def lower_of_text(text):
    if len(text) <= BOUND_BYTES:
        return Bound(EXACT, text)
    return Bound(CUT, text[:BOUND_BYTES])


def upper_of_text(text):
    if len(text) <= BOUND_BYTES:
        return Bound(EXACT, text)
    kept = BOUND_BYTES
    while kept > 0 and text[kept - 1] == 255:
        kept = kept - 1
    if kept == 0:
        return Bound(OPEN, [])
    return Bound(RAISED, text[:kept - 1] + [text[kept - 1] + 1])


def bounds_of_value(kind, value):
    if kind.code == KIND_T:
        return Bounds(lower_of_text(value), upper_of_text(value))
    return Bounds(Bound(EXACT, value), Bound(EXACT, value))


def exact_if_one_is(one, other):
    """One of two bounds that have the same value."""
    if one.mark == EXACT:
        return one
    return other


def merged_lower(one, other):
    if one.value == other.value:
        return exact_if_one_is(one, other)
    if one.value < other.value:
        return one
    return other


def merged_upper(one, other):
    if one.mark == OPEN:
        return one
    if other.mark == OPEN:
        return other
    if one.value == other.value:
        return exact_if_one_is(one, other)
    if one.value > other.value:
        return one
    return other


def merged_bounds(one, other):
    """The bounds of both together; None stands for no bounds."""
    if one is None:
        return other
    if other is None:
        return one
    return Bounds(merged_lower(one.lower, other.lower), merged_upper(one.upper, other.upper))
