"""What statistics promise, beside all rows of items that have them.

The rows are all those of a few values out of a pool. A pool has, with each text of more than 8 bytes, the
least and the greatest that share its first 8 bytes. So what no row of the pool shows, no row shows, and
the answers can be told from the rows alone, without the words that the program works by.
"""

import itertools
import unittest

from tests.support import (
    B, add, between, example, gaps, items, judge, kind_i, kind_t, may, parts, read, run_on, told_bytes,
    told_items, told_parts, told_value,
)

EIGHT = tuple(range(97, 105))
ABOVE = EIGHT[:7] + (105,)
SHORTENED = (97,) + (255,) * 7
FULL = (255,) * 8


def atoms_of(chosen):
    """The atoms that have a literal."""
    return (0, 1, 2, 3) if chosen[0] == 2 else (0, 1, 2)


def text_pool(size):
    more = size - 8
    pool = [(), (0,), (97,), EIGHT[:3], EIGHT, ABOVE, (98,), FULL, (255,)]
    for stem in (EIGHT, ABOVE, SHORTENED, FULL):
        pool += [stem + (0,), stem + (97,), stem + (255,) * more]
    return sorted(set(pool))


def holds(atom, literal, value):
    return {
        0: value < literal,
        1: value > literal,
        2: value == literal,
        3: value[:len(literal)] == literal,
        4: True,
    }[atom]


class Rows:
    """All rows of so many values of a pool that have the same statistics."""

    def __init__(self, many, rows):
        self.many = many
        self.leasts = {row[0] for row in rows}
        self.greatests = {row[-1] for row in rows}
        self.among = {value for row in rows for value in row}
        self.first = min(self.among)
        self.last = max(self.among)
        self.rows = rows

    def judgement(self, missing, atom, literal):
        told = {holds(atom, literal, value) for value in self.among}
        if True not in told:
            return 0
        return 1 if told == {True} and missing == 0 else 2

    def chosen(self, atom, literal):
        pools = [self.leasts, self.greatests] if self.many == 2 and atom == 3 else [self.among]
        for pool in pools:
            found = [value for value in pool if holds(atom, literal, value)]
            if found:
                return max(found) if atom == 1 else min(found)
        return None

    def failing(self, atom, literal):
        for value in (self.first, self.last):
            if not holds(atom, literal, value):
                return value
        return None

    def with_value(self, value):
        if self.many == 1:
            return [value]
        if self.many == 2:
            return [value, self.last] if value in self.leasts else [self.first, value]
        return [self.first, value] + [self.last] * (self.many - 2)


def all_rows(chosen, pool, many):
    groups = {}
    for row in itertools.combinations_with_replacement(pool, many):
        groups.setdefault(tuple(told_bytes(chosen, many, 0, row)), []).append(row)
    return [Rows(many, rows) for rows in groups.values()]


class MeaningTest(unittest.TestCase):
    def wanted_example(self, chosen, rows, missing, want, atom, literal):
        if want == 0 and missing > 0:
            return told_items(chosen, rows.with_value(rows.first), missing)
        value = rows.chosen(atom, literal) if want == 1 else rows.failing(atom, literal)
        return [-9] if value is None else told_items(chosen, rows.with_value(value), missing)

    def check_rows(self, chosen, pool, rows, missing):
        data = told_bytes(chosen, rows.many + missing, missing, rows.rows[0])
        questions = list(itertools.product(atoms_of(chosen), pool))
        calls = [read(data), between(), items()] + [may(value) for value in pool]
        wanted = [[rows.many + missing], [0] + told_value(chosen, rows.first) + told_value(chosen, rows.last)]
        wanted += [told_items(chosen, rows.with_value(rows.first), missing)]
        wanted += [[1 if value in rows.among else 0] for value in pool]
        for atom, literal in questions + [(4, ())]:
            calls += [judge(atom, literal), example(atom, 1, literal), example(atom, 0, literal)]
            wanted += [[rows.judgement(missing, atom, literal)]]
            wanted += [self.wanted_example(chosen, rows, missing, want, atom, literal) for want in (1, 0)]
        out = run_on(chosen, *calls)
        for call, told, right in zip(calls, out, wanted, strict=True):
            self.assertEqual(told, right, (chosen, data, call))

    def check(self, chosen, pool, most):
        for many in range(1, most + 1):
            for rows in all_rows(chosen, pool, many):
                for missing in (0, 2):
                    self.check_rows(chosen, pool, rows, missing)

    def test_b(self):
        self.check(B, [(0,), (1,)], 6)

    def test_i(self):
        self.check(kind_i(2), [(k,) for k in range(-2, 2)], 5)
        self.check(kind_i(4), [(k,) for k in range(-8, 8)], 3)

    def test_short_texts(self):
        self.check(kind_t(2), [(), (0,), (0, 0), (0, 255), (97,), (97, 98), (98,), (255,), (255, 255)], 4)

    def test_texts_of_9_bytes(self):
        self.check(kind_t(9), text_pool(9), 3)

    def test_texts_of_12_bytes(self):
        self.check(kind_t(12), text_pool(12), 3)


class ShownTest(unittest.TestCase):
    """The items answered, added to a new column of the same kind, have just these statistics."""

    def added(self, chosen, told):
        """What parts answers once the items of an answer are added to a new column."""
        calls = []
        place = 1
        for step in range(told[0]):
            there = told[place]
            place += 1
            if there == 0:
                calls.append(gaps(1))
                continue
            count = 1
            if chosen[0] == 2:
                count = told[place]
                place += 1
            calls.append(add(1, 1, told[place:place + count]))
            place += count
        self.assertEqual(place, len(told))
        return run_on(chosen, *calls, parts())[-1]

    def check(self, chosen, pool, literals):
        for many in (1, 2, 3, 5):
            for row in itertools.combinations_with_replacement(pool, min(many, 3)):
                values = list(row) + [row[-1]] * (many - len(row))
                for missing in (0, 1):
                    data = told_bytes(chosen, many + missing, missing, values)
                    calls = [example(*row) for row in itertools.product(atoms_of(chosen), (0, 1), literals)]
                    for told in run_on(chosen, read(data), items(), *calls)[1:]:
                        if told != [-9]:
                            wanted = told_parts(chosen, many + missing, missing, values)
                            self.assertEqual(self.added(chosen, told), wanted, (data, told))

    def test_no_values(self):
        for chosen in (B, kind_i(8), kind_t(9)):
            for many in (0, 1, 100):
                told = run_on(chosen, gaps(many), items())[-1]
                self.assertEqual(self.added(chosen, told), [many, many])

    def test_numbers(self):
        self.check(B, [(0,), (1,)], [(0,), (1,)])
        self.check(kind_i(8), [(-128,), (-1,), (6,), (127,)], [(-128,), (0,), (6,), (127,)])

    def test_texts(self):
        pool = [(), EIGHT, EIGHT + (7,), ABOVE, SHORTENED + (7,), FULL, FULL + (7,)]
        literals = [(), (97,), EIGHT, EIGHT + (5,), SHORTENED, (98,), FULL, FULL + (0, 0)]
        self.check(kind_t(12), pool, literals)

    def test_one_hundred_items(self):
        calls = [add(40, 1, EIGHT + (7,)), add(40, 1, FULL + (7,)), gaps(20)]
        out = run_on(kind_t(12), *calls, parts(), items(), example(3, 1, (98,)), example(3, 0, (98,)))
        for told in out[4:]:
            self.assertEqual(told[0], 100)
            self.assertEqual(self.added(kind_t(12), told), out[3])
