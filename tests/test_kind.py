"""Points 1 and 2: kind, and what is refused while there is none."""

import unittest

from tests.support import (
    add, between, example, fault, gaps, items, judge, kind, may, merge, parts, read, run, value, write,
)

BIG = 10 ** 18
HUGE = 10 ** 20


class KindTest(unittest.TestCase):
    def test_kinds_taken(self):
        for code, size in [(0, 0), (1, 2), (1, 3), (1, 63), (1, 64), (2, 1), (2, 8), (2, 9), (2, 999)]:
            self.assertEqual(run(kind(code, size)), [[0]], (code, size))

    def test_kinds_refused(self):
        wrong = [(-1, 0), (3, 0), (3, 8), (-1, 8), (BIG, 0), (-BIG, 0)]
        wrong += [(0, size) for size in (-1, 1, 2, BIG, -BIG)]
        wrong += [(1, size) for size in (-2, 0, 1, 65, BIG, -BIG)]
        wrong += [(2, size) for size in (-1, 0, 1000, BIG, -BIG)]
        for code, size in wrong:
            self.assertEqual(run(kind(code, size)), [[-1]], (code, size))

    def test_a_kind_brings_the_statistics_of_no_items(self):
        out = run(kind(1, 8), value(5), gaps(2), kind(1, 8), parts(), kind(2, 3), parts(), write())
        self.assertEqual(out[4], [0, 0])
        self.assertEqual(out[6:], [[0, 0], [2, 0, 0]])

    def test_the_new_kind_holds(self):
        out = run(kind(1, 8), kind(0, 0), value(2), kind(2, 1), value(2), value(2, 2), kind(1, 2), value(2))
        self.assertEqual(out, [[0], [0], [-4], [0], [1], [-4], [0], [-4]])

    def test_a_refused_kind_changes_nothing(self):
        out = run(kind(1, 8), value(5), kind(2, 0), parts(), value(-128), parts())
        self.assertEqual(out[2:], [[-1], [1, 0, 0, 5, 0, 5], [2], [2, 0, 0, -128, 0, 5]])


class NoKindTest(unittest.TestCase):
    # Each of the calls 1 to 11, as it would be taken once there is a kind.
    RIGHT = [
        value(1), gaps(1), parts(), write(), read([0, 0]), fault([0, 0]), merge([0, 0]), between(), may([1]),
        judge(2, [1]), judge(4, []), items(), example(2, 1, [1]), example(4, 0, []),
    ]
    # And with all that would be wrong with it otherwise.
    WRONG = [
        add(-1, 1, [1]), add(1, 2, [1]), add(1, 0, [1]), add(1, 1, []), add(BIG, 1, [1]), add(-1, 7, [HUGE] * 1100),
        read([]), read([255] * 1000), fault([200]), fault([]), merge([]), merge([1, 2]), merge([193, 132, 61, 0]),
        may([]), may([HUGE]), may([-1] * 1100), judge(-1, []), judge(5, [1]), judge(4, [1]), judge(BIG, [HUGE]),
        judge(3, [256]), example(-1, 7, []), example(2, 2, [1]), example(4, 1, [1]), example(-BIG, BIG, [HUGE] * 1100),
    ]

    def test_each_call_is_refused(self):
        self.assertEqual(sorted({call[0] for call in self.RIGHT}), list(range(1, 12)))
        for call in self.RIGHT:
            self.assertEqual(run(call), [[-2]], call)

    def test_it_is_looked_at_first(self):
        for call in self.WRONG:
            self.assertEqual(run(call), [[-2]], call)

    def test_a_refused_kind_is_no_kind(self):
        for wrong in (kind(3, 0), kind(-1, 0), kind(0, 1), kind(1, 65), kind(2, 0)):
            for call in self.RIGHT + self.WRONG:
                self.assertEqual(run(wrong, call), [[-1], [-2]], call)

    def test_the_calls_are_taken_once_there_is_a_kind(self):
        out = run(*self.RIGHT, kind(1, 8), *self.RIGHT)
        many = len(self.RIGHT)
        self.assertEqual(out[:many + 1], [[-2]] * many + [[0]])
        self.assertNotIn([-2], out[many + 1:])

    def test_what_was_refused_left_nothing(self):
        out = run(value(1), gaps(3), read([2, 2]), merge([2, 2]), kind(0, 0), parts())
        self.assertEqual(out, [[-2], [-2], [-2], [-2], [0], [0, 0]])


class SecondKindTest(unittest.TestCase):
    def test_it_begins_anew(self):
        asked = [parts(), write(), between(), may([1]), judge(4, []), items(), example(4, 1, []), example(4, 0, [])]
        fresh = [[0, 0], [2, 0, 0], [-6], [0], [0], [0], [-9], [-9]]
        for first in ((0, 0), (1, 8), (2, 9)):
            for second in ((0, 0), (1, 8), (2, 9)):
                out = run(kind(*first), value(1), gaps(2), merge([1, 1]), kind(*second), *asked)
                self.assertEqual(out[:5], [[0], [1], [3], [4], [0]])
                self.assertEqual(out[5:], fresh, (first, second))

    def test_a_refused_one_changes_nothing(self):
        out = run(kind(1, 8), value(5), gaps(1), items(), between(), kind(3, 0), items(), between(), judge(2, [5]))
        self.assertEqual(out[3:], [[2, 1, 5, 0], [0, 5, 5], [-1], [2, 1, 5, 0], [0, 5, 5], [2]])
