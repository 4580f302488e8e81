"""Points 1 and 2: kind, and what is refused while there is none."""

import unittest

from tests.support import add, fault, gaps, kind, parts, read, run, value, write

BIG = 10 ** 18


class KindTest(unittest.TestCase):
    def test_kinds_taken(self):
        for code, size in [(0, 0), (1, 2), (1, 3), (1, 63), (1, 64), (2, 1), (2, 8), (2, 9), (2, 999)]:
            self.assertEqual(run(kind(code, size)), [[0]], (code, size))

    def test_kinds_refused(self):
        wrong = [(-1, 0), (3, 0), (3, 8), (-1, 8), (BIG, 0), (-BIG, 0)]
        wrong += [(0, size) for size in (-1, 1, 2, BIG, -BIG)]
        wrong += [(1, size) for size in (-2, 0, 1, 65, BIG, -BIG)]
        wrong += [(2, size) for size in (-1, 0, 1000, BIG, -BIG)]
        for code, size in wrong:
            self.assertEqual(run(kind(code, size)), [[-1]], (code, size))

    def test_a_kind_brings_the_statistics_of_no_items(self):
        out = run(kind(1, 8), value(5), gaps(2), kind(1, 8), parts(), kind(2, 3), parts(), write())
        self.assertEqual(out[4], [0, 0])
        self.assertEqual(out[6:], [[0, 0], [2, 0, 0]])

    def test_the_new_kind_holds(self):
        out = run(kind(1, 8), kind(0, 0), value(2), kind(2, 1), value(2), value(2, 2), kind(1, 2), value(2))
        self.assertEqual(out, [[0], [0], [-4], [0], [1], [-4], [0], [-4]])

    def test_a_refused_kind_changes_nothing(self):
        out = run(kind(1, 8), value(5), kind(2, 0), parts(), value(-128), parts())
        self.assertEqual(out[2:], [[-1], [1, 0, 0, 5, 0, 5], [2], [2, 0, 0, -128, 0, 5]])


class NoKindTest(unittest.TestCase):
    def test_each_call_is_refused(self):
        calls = [value(1), gaps(1), parts(), write(), read([0, 0]), fault([0, 0])]
        for call in calls:
            self.assertEqual(run(call), [[-2]], call)

    def test_it_is_looked_at_first(self):
        calls = [add(-1, 1, [1]), add(1, 2, [1]), add(1, 0, [1]), add(BIG, 1, [1]), read([]), fault([200])]
        for call in calls:
            self.assertEqual(run(call), [[-2]], call)

    def test_a_refused_kind_is_no_kind(self):
        self.assertEqual(run(kind(3, 0), parts()), [[-1], [-2]])

    def test_what_was_refused_left_nothing(self):
        out = run(value(1), gaps(3), read([2, 2]), kind(0, 0), parts())
        self.assertEqual(out, [[-2], [-2], [-2], [0], [0, 0]])
