"""The calls that ask what statistics promise. They change nothing."""

from columnbounds.atoms import Atom, is_atom
from columnbounds.judging import chosen_value, failing_value, judgement
from columnbounds.kinds import is_value_of, value_told
from columnbounds.possible import first_value, last_value, may_be_among
from columnbounds.refusals import BAD_NUMBER, BAD_VALUE, NO_BOUNDS, NO_EXAMPLE, TOO_LONG
from columnbounds.samples import plain_values, values_with

# More items than these are not told one by one.
MOST_TOLD = 100

WANT_FAILING = 0
WANT_HOLDING = 1


def answer_between(kind, statistics):
    if statistics.bounds is None:
        return [NO_BOUNDS]
    first = first_value(statistics.bounds)
    last = last_value(kind, statistics.bounds)
    return [0] + value_told(kind, first) + value_told(kind, last)


def answer_may(kind, statistics, value):
    if not is_value_of(kind, value):
        return [BAD_VALUE]
    if may_be_among(kind, statistics, value):
        return [1]
    return [0]


def answer_judge(kind, statistics, number, literal):
    if not is_atom(kind, number, literal):
        return [BAD_VALUE]
    return [judgement(kind, statistics, Atom(number, literal))]


def items_told(kind, values, gaps):
    told = [len(values) + gaps]
    for value in values:
        told.append(1)
        told.extend(value_told(kind, value))
    return told + [0] * gaps


def answer_items(kind, statistics):
    if statistics.count > MOST_TOLD:
        return [TOO_LONG]
    return items_told(kind, plain_values(kind, statistics), statistics.gaps)


def wanted_value(kind, statistics, atom, want):
    if want == WANT_HOLDING:
        return chosen_value(kind, statistics, atom)
    return failing_value(kind, statistics, atom)


def answer_example(kind, statistics, number, want, literal):
    if not is_atom(kind, number, literal):
        return [BAD_VALUE]
    if want < WANT_FAILING or want > WANT_HOLDING:
        return [BAD_NUMBER]
    if statistics.count > MOST_TOLD:
        return [TOO_LONG]
    # A gap holds no atom, so with gaps any items with these statistics have one that fails it.
    if want == WANT_FAILING and statistics.gaps > 0:
        return answer_items(kind, statistics)
    value = wanted_value(kind, statistics, Atom(number, literal), want)
    if value is None:
        return [NO_EXAMPLE]
    return items_told(kind, values_with(kind, statistics, value), statistics.gaps)
