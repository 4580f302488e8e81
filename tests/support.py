"""What the tests share: calls written as lists, and answers taken apart again."""

from columnbounds.column import answers

B = (0, 0)


def kind_i(size):
    return (1, size)


def kind_t(size):
    return (2, size)


def text(word):
    return list(word.encode("latin-1"))


def kind(code, size):
    return [0, code, size]


def add(times, there, value):
    return [1, times, there, len(value)] + list(value)


def value(*numbers):
    return add(1, 1, numbers)


def gaps(times):
    return add(times, 0, [])


def parts():
    return [2]


def write():
    return [3]


def read(data):
    return [4, len(data)] + list(data)


def fault(data):
    return [5, len(data)] + list(data)


def split(told):
    """One list for each answer, out of the one list that is given back."""
    out = []
    place = 0
    while place < len(told):
        count = told[place]
        out.append(told[place + 1:place + 1 + count])
        place += 1 + count
    if place != len(told):
        raise AssertionError(f"the last answer is too short: {told}")
    return out


def run(*calls):
    """The answers of the calls, one list each; the list handed in must stay as it was."""
    handed = [number for call in calls for number in call]
    before = list(handed)
    told = answers(handed)
    if handed != before:
        raise AssertionError("the list handed in was changed")
    if type(told) is not list or any(type(number) is not int for number in told):
        raise AssertionError("not a list of whole numbers")
    out = split(told)
    if len(out) != len(calls):
        raise AssertionError(f"{len(calls)} calls, {len(out)} answers")
    return out


def run_on(chosen, *calls):
    """The answers of the calls on an object of a chosen kind."""
    out = run(kind(*chosen), *calls)
    if out[0] != [0]:
        raise AssertionError(f"no kind: {chosen}")
    return out[1:]


def last_on(chosen, *calls):
    return run_on(chosen, *calls)[-1]


def written(chosen, *calls):
    """The bytes that write answers after the calls."""
    told = last_on(chosen, *calls, write())
    if told[0] != len(told) - 1:
        raise AssertionError(f"write tells a wrong count: {told}")
    return told[1:]
