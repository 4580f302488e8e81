"""Statistics read strictly from bytes: just what writing gives is taken, all else is a Fault."""

from columnbounds.bounds import BOUND_BYTES, CUT, EXACT, OPEN, RAISED, Bound, Bounds
from columnbounds.faults import FAULT_BOUNDS, FAULT_COUNT, FAULT_LEFT, FAULT_TAG, FAULT_VALUE, Fault
from columnbounds.kinds import KIND_T, is_number_of
from columnbounds.possible import first_value, last_value, may_be_greatest
from columnbounds.reader import Reader
from columnbounds.stats import MOST_ITEMS, Statistics

GREATEST_MARK = 5


def read_count(reader, most):
    place = reader.place
    count = reader.next_short()
    if count > most:
        raise Fault(FAULT_COUNT, place)
    return count


def read_number_bounds(reader, kind, many):
    place = reader.place
    least = reader.next_signed()
    if not is_number_of(kind, least):
        raise Fault(FAULT_VALUE, place)
    place = reader.place
    distance = reader.next_short()
    if not is_number_of(kind, least + distance):
        raise Fault(FAULT_VALUE, place)
    if many == 1 and distance != 0:
        raise Fault(FAULT_BOUNDS, place)
    return Bounds(Bound(EXACT, [least]), Bound(EXACT, [least + distance]))


def read_mark(reader, kind):
    place = reader.place
    mark = reader.next_byte()
    if mark > GREATEST_MARK:
        raise Fault(FAULT_TAG, place)
    if mark != 0 and kind.size <= BOUND_BYTES:
        raise Fault(FAULT_BOUNDS, place)
    return mark


def read_bound_text(reader, fewest, most):
    place = reader.place
    count = reader.next_byte()
    if count < fewest or count > most:
        raise Fault(FAULT_VALUE, place)
    return reader.next_bytes(count)


def read_lower(reader, kind, mark):
    if mark == CUT:
        return Bound(CUT, read_bound_text(reader, BOUND_BYTES, BOUND_BYTES))
    return Bound(EXACT, read_bound_text(reader, 0, min(BOUND_BYTES, kind.size)))


def read_upper(reader, kind, mark):
    if mark == OPEN:
        return Bound(OPEN, [])
    if mark == EXACT:
        return Bound(EXACT, read_bound_text(reader, 0, min(BOUND_BYTES, kind.size)))
    place = reader.place
    text = read_bound_text(reader, 1, BOUND_BYTES)
    if text[-1] == 0:
        raise Fault(FAULT_VALUE, place)
    return Bound(RAISED, text)


def read_text_bounds(reader, kind, many):
    place = reader.place
    mark = read_mark(reader, kind)
    lower = read_lower(reader, kind, mark % 2)
    upper = read_upper(reader, kind, mark // 2)
    bounds = Bounds(lower, upper)
    first = first_value(bounds)
    if last_value(kind, bounds) < first:
        raise Fault(FAULT_BOUNDS, place)
    if many == 1 and not may_be_greatest(kind, bounds, first):
        raise Fault(FAULT_BOUNDS, place)
    return bounds


def read_bounds(reader, kind, many):
    """The bounds of so many values."""
    if many == 0:
        return None
    if kind.code == KIND_T:
        return read_text_bounds(reader, kind, many)
    return read_number_bounds(reader, kind, many)


def read_statistics(kind, data):
    reader = Reader(data)
    count = read_count(reader, MOST_ITEMS)
    gaps = read_count(reader, count)
    bounds = read_bounds(reader, kind, count - gaps)
    if reader.place < len(data):
        raise Fault(FAULT_LEFT, reader.place)
    return Statistics(count, gaps, bounds)
