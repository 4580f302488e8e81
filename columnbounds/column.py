"""The calls on one column: its kind, its statistics, and what it answers."""

from columnbounds.bounds import OPEN
from columnbounds.faults import Fault
from columnbounds.kinds import Kind, is_kind, is_value_of, value_told
from columnbounds.questions import answer_between, answer_example, answer_items, answer_judge, answer_may
from columnbounds.reading import read_statistics
from columnbounds.refusals import BAD_BYTES, BAD_KIND, BAD_NUMBER, BAD_VALUE, NO_KIND, TOO_MANY
from columnbounds.stats import MOST_ITEMS, gaps_alone, merged, no_items, same_value
from columnbounds.writing import statistics_bytes

CALL_KIND = 0
CALL_ADD = 1
CALL_PARTS = 2
CALL_WRITE = 3
CALL_READ = 4
CALL_FAULT = 5
CALL_MERGE = 6
CALL_BETWEEN = 7
CALL_MAY = 8
CALL_JUDGE = 9
CALL_ITEMS = 10

# Of each call, by its number: how many whole numbers it has, and how many rows behind them.
SHAPES = ((2, 0), (2, 1), (0, 0), (0, 0), (0, 1), (0, 1), (0, 1), (0, 0), (0, 1), (1, 1), (0, 0), (2, 1))


class Column:
    """The kind (None while there is none) and the statistics held."""

    def __init__(self):
        self.kind = None
        self.statistics = no_items()


class Calls:
    """The one list of calls, taken number by number."""

    def __init__(self, numbers):
        self.numbers = numbers
        self.place = 0

    def is_at_end(self):
        return self.place == len(self.numbers)

    def next_number(self):
        number = self.numbers[self.place]
        self.place = self.place + 1
        return number

    def next_row(self):
        count = self.next_number()
        row = self.numbers[self.place:self.place + count]
        self.place = self.place + count
        return row


def answer_kind(column, code, size):
    if not is_kind(code, size):
        return [BAD_KIND]
    column.kind = Kind(code, size)
    column.statistics = no_items()
    return [0]


def is_item(kind, there, value):
    if there == 0:
        return len(value) == 0
    return is_value_of(kind, value)


def statistics_of_item(kind, times, there, value):
    if there == 0:
        return gaps_alone(times)
    return same_value(kind, times, value)


def answer_merged(column, statistics):
    """The answer of a call that merges statistics into those held."""
    if column.statistics.count + statistics.count > MOST_ITEMS:
        return [TOO_MANY]
    column.statistics = merged(column.statistics, statistics)
    return [column.statistics.count]


def answer_add(column, times, there, value):
    if times < 0 or there < 0 or there > 1:
        return [BAD_NUMBER]
    if not is_item(column.kind, there, value):
        return [BAD_VALUE]
    return answer_merged(column, statistics_of_item(column.kind, times, there, value))


def bounds_told(kind, bounds):
    lower = bounds.lower
    upper = bounds.upper
    told = [lower.mark] + value_told(kind, lower.value) + [upper.mark]
    if upper.mark == OPEN:
        return told
    return told + value_told(kind, upper.value)


def answer_parts(column):
    statistics = column.statistics
    counts = [statistics.count, statistics.gaps]
    if statistics.bounds is None:
        return counts
    return counts + bounds_told(column.kind, statistics.bounds)


def answer_write(column):
    written = statistics_bytes(column.kind, column.statistics)
    return [len(written)] + written


def answer_read(column, data):
    try:
        column.statistics = read_statistics(column.kind, data)
    except Fault as fault:
        return [BAD_BYTES - fault.kind]
    return [column.statistics.count]


def answer_fault(column, data):
    try:
        read_statistics(column.kind, data)
    except Fault as fault:
        return [fault.kind, fault.place]
    return [0]


def answer_merge(column, data):
    try:
        statistics = read_statistics(column.kind, data)
    except Fault as fault:
        return [BAD_BYTES - fault.kind]
    return answer_merged(column, statistics)


def next_arguments(calls, call):
    shape = SHAPES[call]
    numbers = [calls.next_number() for step in range(shape[0])]
    rows = [calls.next_row() for step in range(shape[1])]
    return numbers + rows


def answer_on_bytes(column, call, data):
    if call == CALL_READ:
        return answer_read(column, data)
    if call == CALL_FAULT:
        return answer_fault(column, data)
    return answer_merge(column, data)


def answer_question(column, call, given):
    kind = column.kind
    statistics = column.statistics
    if call == CALL_BETWEEN:
        return answer_between(kind, statistics)
    if call == CALL_MAY:
        return answer_may(kind, statistics, given[0])
    if call == CALL_JUDGE:
        return answer_judge(kind, statistics, given[0], given[1])
    if call == CALL_ITEMS:
        return answer_items(kind, statistics)
    return answer_example(kind, statistics, given[0], given[1], given[2])


def answer_next(column, calls):
    call = calls.next_number()
    given = next_arguments(calls, call)
    if call == CALL_KIND:
        return answer_kind(column, given[0], given[1])
    if column.kind is None:
        return [NO_KIND]
    if call == CALL_ADD:
        return answer_add(column, given[0], given[1], given[2])
    if call == CALL_PARTS:
        return answer_parts(column)
    if call == CALL_WRITE:
        return answer_write(column)
    if call <= CALL_MERGE:
        return answer_on_bytes(column, call, given[0])
    return answer_question(column, call, given)


def answers(calls):
    column = Column()
    waiting = Calls(calls)
    told = []
    while not waiting.is_at_end():
        answer = answer_next(column, waiting)
        told.append(len(answer))
        told.extend(answer)
    return told
