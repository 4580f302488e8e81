"""The kinds of columns and their values.

A value is kept as the list that hands it over: of b and i one number, of t its bytes. So Python's
order of lists is the order of the values of every kind.
"""

KIND_B = 0
KIND_I = 1
KIND_T = 2


class Kind:
    def __init__(self, code, size):
        self.code = code
        self.size = size


def is_kind(code, size):
    if code == KIND_B:
        return size == 0
    if code == KIND_I:
        return 2 <= size <= 64
    if code == KIND_T:
        return 1 <= size <= 999
    return False


def power_of_two(exponent):
    power = 1
    for step in range(exponent):
        power = power * 2
    return power


def is_number_of(kind, number):
    if kind.code == KIND_B:
        return 0 <= number <= 1
    half = power_of_two(kind.size - 1)
    return -half <= number < half


def is_text_of(kind, text):
    return len(text) <= kind.size and all([0 <= byte <= 255 for byte in text])


def is_value_of(kind, value):
    if kind.code == KIND_T:
        return is_text_of(kind, value)
    return len(value) == 1 and is_number_of(kind, value[0])


def value_told(kind, value):
    """The numbers by which an answer tells a value."""
    if kind.code == KIND_T:
        return [len(value)] + value
    return list(value)
