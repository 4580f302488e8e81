"""What the tests share: calls written as lists, answers taken apart again, and statistics worked out from items."""

from columnbounds.column import answers

B = (0, 0)


def kind_i(size):
    return (1, size)


def kind_t(size):
    return (2, size)


def text(word):
    return list(word.encode("latin-1"))


def kind(code, size):
    return [0, code, size]


def add(times, there, value):
    return [1, times, there, len(value)] + list(value)


def value(*numbers):
    return add(1, 1, numbers)


def gaps(times):
    return add(times, 0, [])


def parts():
    return [2]


def write():
    return [3]


def read(data):
    return [4, len(data)] + list(data)


def fault(data):
    return [5, len(data)] + list(data)


def merge(data):
    return [6, len(data)] + list(data)


def between():
    return [7]


def may(row):
    return [8, len(row)] + list(row)


def judge(atom, literal):
    return [9, atom, len(literal)] + list(literal)


def items():
    return [10]


def example(atom, want, literal):
    return [11, atom, want, len(literal)] + list(literal)


def split(told):
    """One list for each answer, out of the one list that is given back."""
    out = []
    place = 0
    while place < len(told):
        count = told[place]
        out.append(told[place + 1:place + 1 + count])
        place += 1 + count
    if place != len(told):
        raise AssertionError(f"the last answer is too short: {told}")
    return out


def run(*calls):
    """The answers of the calls, one list each; the list handed in must stay as it was."""
    handed = [number for call in calls for number in call]
    if not 1 <= len(calls) <= 400 or len(handed) > 15000:
        raise AssertionError("no such list is handed in")
    before = list(handed)
    told = answers(handed)
    if handed != before:
        raise AssertionError("the list handed in was changed")
    if type(told) is not list or any(type(number) is not int for number in told):
        raise AssertionError("not a list of whole numbers")
    out = split(told)
    if len(out) != len(calls):
        raise AssertionError(f"{len(calls)} calls, {len(out)} answers")
    return out


def run_on(chosen, *calls):
    """The answers of the calls on an object of a chosen kind."""
    out = run(kind(*chosen), *calls)
    if out[0] != [0]:
        raise AssertionError(f"no kind: {chosen}")
    return out[1:]


def last_on(chosen, *calls):
    return run_on(chosen, *calls)[-1]


def written(chosen, *calls):
    """The bytes that write answers after the calls."""
    told = last_on(chosen, *calls, write())
    if told[0] != len(told) - 1:
        raise AssertionError(f"write tells a wrong count: {told}")
    return told[1:]


def short(number):
    if number < 128:
        return [number]
    return [128 + number % 128] + short(number // 128)


def signed(number):
    return short(2 * number if number >= 0 else -2 * number - 1)


def text_bounds(least, greatest):
    """Mark and text of both bounds; the upper text is None if it is open."""
    lower = (0, least) if len(least) <= 8 else (1, least[:8])
    if len(greatest) <= 8:
        return lower, (0, greatest)
    kept = list(greatest[:8])
    while kept and kept[-1] == 255:
        kept.pop()
    if not kept:
        return lower, (2, None)
    return lower, (1, tuple(kept[:-1]) + (kept[-1] + 1,))


def told_parts(chosen, count, missing, values):
    told = [count, missing]
    if not values:
        return told
    if chosen[0] != 2:
        return told + [0, min(values)[0], 0, max(values)[0]]
    lower, upper = text_bounds(min(values), max(values))
    told += [lower[0], len(lower[1])] + list(lower[1]) + [upper[0]]
    return told if upper[1] is None else told + [len(upper[1])] + list(upper[1])


def told_bytes(chosen, count, missing, values):
    data = short(count) + short(missing)
    if not values:
        return data
    if chosen[0] != 2:
        return data + signed(min(values)[0]) + short(max(values)[0] - min(values)[0])
    lower, upper = text_bounds(min(values), max(values))
    data += [lower[0] + 2 * upper[0], len(lower[1])] + list(lower[1])
    return data if upper[1] is None else data + [len(upper[1])] + list(upper[1])


def told_value(chosen, row):
    return [len(row)] + list(row) if chosen[0] == 2 else list(row)


def told_items(chosen, values, missing):
    """How items tells these values and so many gaps behind them."""
    told = [len(values) + missing]
    for row in values:
        told += [1] + told_value(chosen, row)
    return told + [0] * missing
