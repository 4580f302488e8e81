"""The program beside the document's definitions, worked out here straight from all the items.

Rows of items are drawn from a fixed seed, so each run looks at the same ones.
"""

import random
import unittest

from tests.support import (
    B, add, fault, gaps, kind_i, kind_t, merge, parts, read, run_on, told_bytes, told_parts, write,
)

MOST = 1000000


class Loose:
    """Takes bytes apart without looking whether they are right; too few of them are an IndexError."""

    def __init__(self, data):
        self.data = list(data)

    def byte(self):
        return self.data.pop(0)

    def short(self):
        byte = self.byte()
        return byte if byte < 128 else byte - 128 + 128 * self.short()

    def text(self):
        return tuple(self.byte() for step in range(self.byte()))


def ends_of_numbers(loose):
    number = loose.short()
    least = number // 2 if number % 2 == 0 else -(number + 1) // 2
    return (least,), (least + loose.short(),)


def ends_of_texts(size, loose):
    mark = loose.byte()
    lower = loose.text()
    first = lower + (0,) if mark % 2 else lower
    if mark // 2 == 2:
        return first, (255,) * size
    upper = loose.text()
    if mark // 2 == 0:
        return first, upper
    stem = upper[:-1] + (upper[-1] - 1,)
    return first, stem + (255,) * (size - len(stem))


def is_value(chosen, value):
    code, size = chosen
    if code == 2:
        return len(value) <= size and all(0 <= byte <= 255 for byte in value)
    half = 2 ** (size - 1) if code == 1 else None
    return value[0] in (0, 1) if code == 0 else -half <= value[0] < half


def are_statistics(chosen, data):
    """Whether some row of items has the statistics that these bytes tell, and they are written so."""
    loose = Loose(data)
    try:
        count = loose.short()
        missing = loose.short()
        values = []
        if count > missing:
            first, last = ends_of_numbers(loose) if chosen[0] != 2 else ends_of_texts(chosen[1], loose)
            values = [first] if count - missing == 1 else [first, last]
    except IndexError:
        return False
    if count > MOST or missing > count or not all(is_value(chosen, value) for value in values):
        return False
    return told_bytes(chosen, count, missing, values) == list(data)


def some_value(draw, chosen):
    code, size = chosen
    if code == 0:
        return (draw.randrange(2),)
    if code == 1:
        half = 2 ** (size - 1)
        return (draw.choice([-half, half - 1, 0, -1, draw.randrange(-half, half)]),)
    beginning = draw.choice([(), (97,), (255,) * 7, (255,) * 8, (97,) + (255,) * 7, (97, 98) * 4])
    rest = tuple(draw.choice((0, 97, 98, 254, 255)) for step in range(draw.choice((0, 0, 1, 2, 9))))
    return (beginning + rest)[:size]


def some_row(draw, chosen):
    """A few items with how often each stands there; None is a gap."""
    row = []
    for step in range(draw.randrange(6)):
        item = None if draw.randrange(4) == 0 else some_value(draw, chosen)
        row.append((draw.choice((0, 1, 1, 1, 2, 300)), item))
    return row


def counted(row):
    count = sum(times for times, item in row)
    missing = sum(times for times, item in row if item is None)
    return count, missing, [item for times, item in row if item is not None and times > 0]


def calls_of(row):
    return [gaps(times) if item is None else add(times, 1, item) for times, item in row]


CHOSEN = [B, kind_i(2), kind_i(8), kind_i(64), kind_t(1), kind_t(7), kind_t(8), kind_t(9), kind_t(12), kind_t(999)]


class DefinitionTest(unittest.TestCase):
    def test_parts_and_write_are_those_of_all_items(self):
        draw = random.Random(1)
        for chosen in CHOSEN:
            for step in range(300):
                row = some_row(draw, chosen)
                out = run_on(chosen, *calls_of(row), parts(), write())
                data = told_bytes(chosen, *counted(row))
                self.assertEqual(out[-2], told_parts(chosen, *counted(row)), (chosen, row))
                self.assertEqual(out[-1], [len(data)] + data, (chosen, row))

    def test_read_takes_what_write_gives(self):
        draw = random.Random(2)
        for chosen in CHOSEN:
            for step in range(100):
                row = some_row(draw, chosen)
                data = told_bytes(chosen, *counted(row))
                out = run_on(chosen, gaps(9), fault(data), read(data), parts(), write())
                self.assertEqual(out[1:3], [[0], [counted(row)[0]]], (chosen, row))
                self.assertEqual(out[3], told_parts(chosen, *counted(row)))
                self.assertEqual(out[4], [len(data)] + data)


class MergeTest(unittest.TestCase):
    def test_merged_statistics_are_those_of_all_items(self):
        draw = random.Random(4)
        for chosen in CHOSEN:
            for step in range(200):
                one, other = some_row(draw, chosen), some_row(draw, chosen)
                both = counted(one + other)
                for held, merged in ((one, other), (other, one)):
                    handed = told_bytes(chosen, *counted(merged))
                    out = run_on(chosen, *calls_of(held), merge(handed), parts(), write())
                    data = told_bytes(chosen, *both)
                    self.assertEqual(out[-3:], [[both[0]], told_parts(chosen, *both), [len(data)] + data])

    def test_the_order_of_merging_makes_no_difference(self):
        draw = random.Random(5)
        for chosen in CHOSEN:
            for step in range(50):
                rows = [some_row(draw, chosen) for many in range(4)]
                handed = [merge(told_bytes(chosen, *counted(row))) for row in rows]
                wanted = told_parts(chosen, *counted(sum(rows, [])))
                for calls in (handed, handed[::-1], handed[2:] + handed[:2]):
                    self.assertEqual(run_on(chosen, *calls, parts())[-1], wanted, (chosen, rows))


class StrictTest(unittest.TestCase):
    def check(self, chosen, rows):
        """Of each row of bytes: it is taken just if it is right, and read and fault say the same of it."""
        taken = 0
        for start in range(0, len(rows), 100):
            some = rows[start:start + 100]
            out = run_on(chosen, *[call for data in some for call in (read(data), fault(data), write())])
            for place, data in enumerate(some):
                told, found, now = out[3 * place:3 * place + 3]
                right = are_statistics(chosen, data)
                self.assertEqual(found == [0], right, (chosen, data))
                if right:
                    taken += 1
                    self.assertEqual(now, [len(data)] + list(data), (chosen, data))
                else:
                    self.assertEqual(told, [-20 - found[0]], (chosen, data))
        return taken

    def test_all_short_rows_of_bytes(self):
        rows = [[]]
        for length in range(5):
            rows += [row + [byte] for row in rows if len(row) == length for byte in (0, 1, 2, 3, 5, 6, 127, 128)]
        for chosen in (B, kind_i(2), kind_i(8), kind_t(1), kind_t(9)):
            self.assertGreater(self.check(chosen, rows), 5)

    def test_right_rows_with_bytes_changed(self):
        draw = random.Random(3)
        for chosen in CHOSEN:
            rows = []
            for step in range(60):
                data = told_bytes(chosen, *counted(some_row(draw, chosen)))
                for other in range(20):
                    changed = list(data)
                    for time in range(draw.choice((1, 1, 1, 2, 3))):
                        place = draw.randrange(len(changed))
                        near = (changed[place] + draw.choice((-1, 1))) % 256
                        changed[place] = draw.choice((near, near, 0, 1, 2, 3, 4, 5, 8, 127, 128, 255))
                    rows.append(changed)
            self.assertGreater(self.check(chosen, rows), 20)
