"""What statistics promise of an atom: a value that holds it, one that fails it, and the judgement."""

from columnbounds.atoms import ATOM_BEGINS, ATOM_GREATER, ATOM_SAME, begins_with, holds
from columnbounds.bounds import EXACT
from columnbounds.possible import first_value, last_value, may_be_among, stem
from columnbounds.stats import value_count

NEVER = 0
ALWAYS = 1
MAYBE = 2


def least_that_goes_on(eight, start):
    """The least text of more than these eight bytes that begins with them and with a start."""
    if begins_with(eight, start):
        return eight + [0]
    if begins_with(start, eight):
        return start
    return None


def bound_that_begins(bound, start):
    if begins_with(bound.value, start):
        return bound.value
    return None


def least_beginning_least(bounds, start):
    """The least value that begins with a start and may be the least."""
    if bounds.lower.mark == EXACT:
        return bound_that_begins(bounds.lower, start)
    return least_that_goes_on(bounds.lower.value, start)


def least_beginning_greatest(kind, bounds, start):
    """The least value that begins with a start and may be the greatest."""
    if bounds.upper.mark == EXACT:
        return bound_that_begins(bounds.upper, start)
    return least_that_goes_on(stem(kind, bounds), start)


def least_beginning_between(kind, bounds, start):
    """The least value that begins with a start and lies between the first and the last."""
    first = first_value(bounds)
    if begins_with(first, start):
        return first
    if first < start <= last_value(kind, bounds):
        return start
    return None


def chosen_beginning(kind, statistics, start):
    bounds = statistics.bounds
    many = value_count(statistics)
    if many > 2:
        return least_beginning_between(kind, bounds, start)
    value = least_beginning_least(bounds, start)
    if value is None and many == 2:
        return least_beginning_greatest(kind, bounds, start)
    return value


def chosen_same(kind, statistics, value):
    if may_be_among(kind, statistics, value):
        return value
    return None


def chosen_at_end(kind, bounds, atom):
    """The last for greater, the first for less and any: if that doesn't hold the atom, none among does."""
    if atom.number == ATOM_GREATER:
        value = last_value(kind, bounds)
    else:
        value = first_value(bounds)
    if holds(atom, value):
        return value
    return None


def chosen_value(kind, statistics, atom):
    """A value that holds the atom and may be among; None if there is none."""
    if statistics.bounds is None:
        return None
    if atom.number == ATOM_SAME:
        return chosen_same(kind, statistics, atom.literal)
    if atom.number == ATOM_BEGINS:
        return chosen_beginning(kind, statistics, atom.literal)
    return chosen_at_end(kind, statistics.bounds, atom)


def failing_value(kind, statistics, atom):
    """A value that may be among and doesn't hold the atom; None if there is none."""
    if statistics.bounds is None:
        return None
    first = first_value(statistics.bounds)
    if not holds(atom, first):
        return first
    last = last_value(kind, statistics.bounds)
    if not holds(atom, last):
        return last
    return None


def judgement(kind, statistics, atom):
    if chosen_value(kind, statistics, atom) is None:
        return NEVER
    if statistics.gaps == 0 and failing_value(kind, statistics, atom) is None:
        return ALWAYS
    return MAYBE
