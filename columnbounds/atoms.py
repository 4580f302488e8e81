"""Atoms: the conditions that a value may hold."""

from columnbounds.kinds import KIND_T, is_value_of

ATOM_LESS = 0
ATOM_GREATER = 1
ATOM_SAME = 2
ATOM_BEGINS = 3
ATOM_ANY = 4


class Atom:
    def __init__(self, number, literal):
        self.number = number
        self.literal = literal


def is_atom(kind, number, literal):
    if number < ATOM_LESS or number > ATOM_ANY:
        return False
    if number == ATOM_ANY:
        return len(literal) == 0
    if number == ATOM_BEGINS and kind.code != KIND_T:
        return False
    return is_value_of(kind, literal)


def begins_with(text, start):
    return text[:len(start)] == start


def holds(atom, value):
    if atom.number == ATOM_LESS:
        return value < atom.literal
    if atom.number == ATOM_GREATER:
        return value > atom.literal
    if atom.number == ATOM_SAME:
        return value == atom.literal
    if atom.number == ATOM_BEGINS:
        return begins_with(value, atom.literal)
    return True
