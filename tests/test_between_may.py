"""Points 9 and 10: between and may, which tell the possible values."""

import unittest

from tests.support import (
    B, add, between, gaps, kind_i, kind_t, last_on, may, parts, read, run_on, text, value, write,
)

EIGHT = text("abcdefgh")
ABOVE = text("abcdefgi")
FULL = [255] * 8
HUGE = 10 ** 20


def told(row):
    return [len(row)] + row


def texts(*rows):
    return [add(1, 1, row) for row in rows]


class BetweenTest(unittest.TestCase):
    def check(self, size, rows, first, last):
        self.assertEqual(last_on(kind_t(size), *texts(*rows), between()), [0] + told(first) + told(last))

    def test_no_bounds(self):
        for chosen in (B, kind_i(8), kind_t(8), kind_t(9)):
            out = run_on(chosen, between(), gaps(3), between(), add(0, 1, [0]), between())
            self.assertEqual(out, [[-6], [3], [-6], [3], [-6]])

    def test_numbers(self):
        self.assertEqual(last_on(B, value(1), between()), [0, 1, 1])
        self.assertEqual(last_on(kind_i(8), value(5), gaps(2), value(-128), between()), [0, -128, 5])
        half = 2 ** 63
        self.assertEqual(last_on(kind_i(64), value(-half), value(half - 1), between()), [0, -half, half - 1])

    def test_exact_texts(self):
        self.check(1, [[]], [], [])
        self.check(8, [EIGHT], EIGHT, EIGHT)
        self.check(999, [FULL, EIGHT, []], [], FULL)

    def test_a_lower_bound_that_is_cut(self):
        for size in (9, 12, 999):
            self.check(size, [EIGHT + [7], text("x")], EIGHT + [0], text("x"))
            self.check(size, [EIGHT + [0], text("x")], EIGHT + [0], text("x"))

    def test_an_upper_bound_that_is_raised(self):
        for size in (9, 12, 999):
            self.check(size, [[], EIGHT + [7]], [], EIGHT + [255] * (size - 8))

    def test_an_upper_bound_that_is_raised_with_fewer_than_8_bytes(self):
        for size in (9, 12, 999):
            for kept in range(1, 8):
                head = list(range(10, 10 + kept))
                rows = [[], head + [255] * (8 - kept) + [0]]
                self.check(size, rows, [], head + [255] * (size - kept))
        self.check(9, [[], [0] + [255] * 7 + [3]], [], [0] + [255] * 8)

    def test_an_upper_bound_that_is_open(self):
        for size in (9, 12, 999):
            self.check(size, [EIGHT, FULL + [0]], EIGHT, [255] * size)
            self.check(size, [FULL + [0]], FULL + [0], [255] * size)

    def test_the_document_s_two_texts(self):
        self.check(12, [text("abcdefghi"), EIGHT], EIGHT, EIGHT + [255] * 4)

    def test_read_bounds(self):
        out = last_on(kind_t(9), read([2, 0, 2, 0, 1, 1]), between())
        self.assertEqual(out, [0, 0, 9, 0] + [255] * 8)

    def test_nothing_is_changed(self):
        out = run_on(kind_t(9), *texts(EIGHT + [7]), parts(), write(), between(), between(), parts(), write())
        self.assertEqual(out[3], out[4])
        self.assertEqual(out[5:], out[1:3])


class MayCase(unittest.TestCase):
    def check(self, chosen, calls, allowed, others):
        for row in allowed:
            self.assertEqual(last_on(chosen, *calls, may(row)), [1], (calls, row))
        for row in others:
            self.assertEqual(last_on(chosen, *calls, may(row)), [0], (calls, row))


class MayNumberTest(MayCase):
    def test_no_values(self):
        for calls in ([], [gaps(1)], [gaps(5)], [add(0, 1, [1])]):
            self.check(B, calls, [], [[0], [1]])
            self.check(kind_i(8), calls, [], [[0], [1], [-128], [127]])
            self.check(kind_t(9), calls, [], [[], [0], FULL, FULL + [255]])

    def test_one_value(self):
        self.check(B, [value(1)], [[1]], [[0]])
        self.check(kind_i(8), [value(5), gaps(9)], [[5]], [[4], [6], [0], [-128], [127]])

    def test_two_values(self):
        self.check(B, [value(1), value(1)], [[1]], [[0]])
        self.check(B, [value(1), value(0)], [[1], [0]], [])
        self.check(kind_i(8), [value(5), value(9), gaps(9)], [[5], [9]], [[4], [6], [7], [8], [10], [-128]])

    def test_three_values_and_more(self):
        for times in (1, 2, 999990):
            calls = [value(5), value(9), add(times, 1, [9]), gaps(3)]
            self.check(kind_i(8), calls, [[5], [6], [7], [8], [9]], [[4], [10], [-128], [127], [0]])
        self.check(kind_i(8), [add(3, 1, [5])], [[5]], [[4], [6]])

    def test_the_least_and_the_greatest_values_of_i(self):
        half = 2 ** 63
        calls = [value(-half), add(2, 1, [half - 1])]
        self.check(kind_i(64), calls, [[-half], [0], [half - 1]], [])


class MayTextTest(MayCase):
    def test_one_exact(self):
        self.check(kind_t(12), texts(EIGHT), [EIGHT], [[], EIGHT[:7], EIGHT + [0], ABOVE, EIGHT[:7] + [103]])
        self.check(kind_t(12), texts([]), [[]], [[0], FULL])

    def test_one_cut_and_raised(self):
        allowed = [EIGHT + [0], EIGHT + [7], EIGHT + [255], EIGHT + [0] * 4, EIGHT + [255] * 4]
        others = [[], EIGHT, EIGHT[:7], ABOVE, ABOVE + [0], EIGHT[:7] + [103, 0], EIGHT[:7] + [103] + [255] * 4]
        self.check(kind_t(12), texts(EIGHT + [7]), allowed, others)

    def test_one_cut_and_open(self):
        allowed = [FULL + [0], FULL + [255] * 4]
        self.check(kind_t(12), texts(FULL + [7]), allowed, [FULL, FULL[:7], FULL[:7] + [254, 0], []])

    def test_two_exact(self):
        calls = texts(text("b"), text("d"))
        others = [[], text("a"), text("a") + FULL, text("b") + [0], text("c"), text("d") + [0], text("e")]
        self.check(kind_t(12), calls, [text("b"), text("d")], others)

    def test_two_exact_and_raised(self):
        calls = texts(text("abc"), EIGHT + [7])
        allowed = [text("abc"), EIGHT + [0], EIGHT + [255] * 4]
        others = [text("abcd"), EIGHT, ABOVE, ABOVE + [0], text("ab"), EIGHT[:7] + [103] + [255] * 4]
        self.check(kind_t(12), calls, allowed, others)

    def test_two_of_the_same_eight_bytes(self):
        calls = texts(EIGHT, EIGHT + [7])
        self.check(kind_t(12), calls, [EIGHT, EIGHT + [0], EIGHT + [255] * 4], [EIGHT[:7], ABOVE, ABOVE + [0]])

    def test_two_cut_and_exact(self):
        calls = texts(EIGHT + [7], text("x"))
        self.check(kind_t(12), calls, [EIGHT + [0], EIGHT + [255] * 4, [120]], [EIGHT, ABOVE, [119], [120, 0]])

    def test_two_cut_and_raised_with_fewer_bytes(self):
        stem = [122] + [255] * 7
        calls = texts(EIGHT + [7], stem + [3])
        allowed = [EIGHT + [0], EIGHT + [255] * 4, stem + [0], stem + [255] * 4]
        others = [EIGHT, ABOVE + [0], stem, [123], [122], stem[:7] + [254, 255], [122, 255]]
        self.check(kind_t(12), calls, allowed, others)

    def test_two_and_open(self):
        calls = texts([97], FULL + [3])
        self.check(kind_t(9), calls, [[97], FULL + [0], FULL + [255]], [FULL, [98], FULL[:7] + [254, 255], [97, 0]])

    def test_three_exact(self):
        calls = texts(text("b"), text("d"), text("c"))
        allowed = [text("b"), text("b") + [0], text("c"), text("c") + [255] * 11, text("d")]
        others = [[], text("a"), text("a") + [255] * 11, text("d") + [0], text("e")]
        self.check(kind_t(12), calls, allowed, others)

    def test_three_cut_and_raised(self):
        calls = texts(EIGHT + [7], EIGHT + [8], ABOVE + [9])
        first, last = EIGHT + [0], ABOVE + [255] * 4
        allowed = [first, EIGHT + [0, 0], EIGHT + [255] * 4, ABOVE, ABOVE + [0], ABOVE + [255] * 3, last]
        others = [EIGHT, EIGHT[:7], EIGHT[:7] + [103] + [255] * 4, text("abcdefgj"), text("abcdefgj") + [0], [98]]
        self.check(kind_t(12), calls, allowed, others)

    def test_three_exact_and_raised_with_fewer_bytes(self):
        stem = [122] + [255] * 7
        calls = texts(EIGHT, EIGHT, stem + [3])
        allowed = [EIGHT, EIGHT + [0], [122], stem, stem + [0], stem + [255] * 4]
        self.check(kind_t(12), calls, allowed, [EIGHT[:7], EIGHT[:7] + [103, 255], [123], [123, 0]])

    def test_three_and_open(self):
        for size in (9, 12, 999):
            calls = texts(FULL + [5], FULL + [6], FULL + [7])
            allowed = [FULL + [0], FULL + [255], [255] * size]
            self.check(kind_t(size), calls, allowed, [FULL, [255], [], FULL[:7] + [254, 255]])

    def test_gaps_are_no_values(self):
        self.check(kind_t(9), texts([97], [99]) + [gaps(50)], [[97], [99]], [[98]])


class MayRefusalTest(unittest.TestCase):
    def refused(self, chosen, row):
        for calls in ([], [gaps(2)], [add(1, 1, [1])], [add(3, 1, [1])]):
            self.assertEqual(last_on(chosen, *calls, may(row)), [-4], (chosen, row))

    def test_b(self):
        for row in ([], [2], [-1], [0, 0], [HUGE], [-HUGE], [1] * 1100):
            self.refused(B, row)

    def test_i(self):
        for size in (2, 8, 64):
            half = 2 ** (size - 1)
            for row in ([], [half], [-half - 1], [1, 1], [HUGE], [-HUGE]):
                self.refused(kind_i(size), row)

    def test_t(self):
        for size in (1, 8, 9, 999):
            for row in ([0] * (size + 1), [0] * 1100, [256], [-1], [0] * (size - 1) + [256], [HUGE]):
                self.refused(kind_t(size), row)

    def test_the_longest_text_is_taken(self):
        for size in (1, 8, 9, 999):
            self.assertEqual(last_on(kind_t(size), add(1, 1, [255] * size), may([255] * size)), [1])

    def test_nothing_is_changed(self):
        out = run_on(kind_i(8), value(5), gaps(1), parts(), may([5]), may([6]), may([]), may([128]), parts())
        self.assertEqual(out[3:7], [[1], [0], [-4], [-4]])
        self.assertEqual(out[7], out[2])
