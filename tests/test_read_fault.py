"""Points 6 and 7: read and fault, each fault with its place, and their order."""

import unittest

from tests.support import (
    B, add, fault, gaps, kind_i, kind_t, last_on, parts, read, run_on, text, value, write, written,
)

EIGHT = text("abcdefgh")
ABOVE = text("abcdefgi")
FULL = [255] * 8
MILLION = [192, 132, 61]
MORE = [193, 132, 61]


class FaultCase(unittest.TestCase):
    def check(self, chosen, data, code, place):
        """fault tells it, read refuses with it, and neither changes what is held."""
        held = [gaps(2), parts(), write()]
        out = run_on(chosen, *held, fault(data), read(data), parts(), write())
        self.assertEqual(out[3], [code, place], data)
        self.assertEqual(out[4], [-20 - code], data)
        self.assertEqual(out[5:], out[1:3], data)

    def taken(self, chosen, data, told):
        """read takes the bytes, and they are what write gives then."""
        out = run_on(chosen, fault(data), parts(), read(data), parts(), write())
        self.assertEqual(out[:3], [[0], [0, 0], [told[0]]], data)
        self.assertEqual(out[3], told)
        self.assertEqual(out[4], [len(data)] + data)


class TakenTest(FaultCase):
    def test_no_bounds(self):
        for chosen in (B, kind_i(8), kind_t(8), kind_t(9)):
            self.taken(chosen, [0, 0], [0, 0])
            self.taken(chosen, [5, 5], [5, 5])
            self.taken(chosen, MILLION + MILLION, [1000000, 1000000])

    def test_numbers(self):
        self.taken(B, [1, 0, 2, 0], [1, 0, 0, 1, 0, 1])
        self.taken(B, [2, 0, 0, 1], [2, 0, 0, 0, 0, 1])
        self.taken(kind_i(8), [3, 1, 255, 1, 255, 1], [3, 1, 0, -128, 0, 127])
        self.taken(kind_i(8), MILLION + [0, 1, 0], [1000000, 0, 0, -1, 0, -1])
        widest = [2, 0] + [255] * 9 + [1] + [255] * 9 + [1]
        self.taken(kind_i(64), widest, [2, 0, 0, -2 ** 63, 0, 2 ** 63 - 1])

    def test_texts(self):
        self.taken(kind_t(1), [1, 0, 0, 0, 0], [1, 0, 0, 0, 0, 0])
        self.taken(kind_t(8), [2, 0, 0, 8] + EIGHT + [8] + FULL, [2, 0, 0, 8] + EIGHT + [0, 8] + FULL)
        self.taken(kind_t(9), [1, 0, 3, 8] + EIGHT + [8] + ABOVE, [1, 0, 1, 8] + EIGHT + [1, 8] + ABOVE)
        self.taken(kind_t(9), [1, 0, 5, 8] + FULL, [1, 0, 1, 8] + FULL + [2])
        self.taken(kind_t(9), [2, 0, 4, 0], [2, 0, 0, 0, 2])
        self.taken(kind_t(9), [2, 0, 2, 0, 1, 1], [2, 0, 0, 0, 1, 1, 1])
        self.taken(kind_t(999), [3, 1, 1, 8] + EIGHT + [1, 98], [3, 1, 1, 8] + EIGHT + [0, 1, 98])

    def test_what_is_read_takes_the_place_of_what_was_held(self):
        out = run_on(kind_i(8), value(100), gaps(7), read([1, 0, 4, 0]), parts(), value(3), parts())
        self.assertEqual(out[2:], [[1], [1, 0, 0, 2, 0, 2], [2], [2, 0, 0, 2, 0, 3]])

    def test_fault_changes_nothing(self):
        out = run_on(kind_i(8), value(100), fault([1, 0, 4, 0]), parts())
        self.assertEqual(out[1:], [[0], [1, 0, 0, 100, 0, 100]])


class ShortFaultTest(FaultCase):
    def test_cut(self):
        self.check(B, [], 1, 0)
        for count in range(1, 10):
            self.check(B, [255] * count, 1, count)
            self.check(B, [128] * count, 1, count)

    def test_ten_bytes_and_more(self):
        for count in (10, 11, 12, 1000):
            self.check(B, [255] * count, 2, 0)
            self.check(B, [128] * count, 2, 0)
        self.check(B, [255] * 10 + [0], 2, 0)
        self.check(B, [255] * 10 + [1], 2, 0)

    def test_nine_and_ten_bytes_with_an_end(self):
        for count in (8, 9):
            self.check(B, [128] * count + [0], 2, 0)
            self.check(B, [128] * count + [1], 4, 0)
            self.check(B, [255] * count + [127], 4, 0)

    def test_a_last_byte_0(self):
        self.check(B, [128, 0], 2, 0)
        self.check(B, [255, 0, 9, 9], 2, 0)
        self.check(B, [129, 128, 0, 0], 2, 0)

    def test_at_the_gaps(self):
        self.check(B, [5], 1, 1)
        self.check(B, [5, 128], 1, 2)
        self.check(B, [172, 2, 128, 0], 2, 2)
        self.check(B, [5] + [255] * 9, 1, 10)
        self.check(B, [5] + [255] * 10, 2, 1)

    def test_at_the_bounds(self):
        for chosen in (B, kind_i(8), kind_i(64)):
            self.check(chosen, [2, 0], 1, 2)
            self.check(chosen, [2, 0, 128], 1, 3)
            self.check(chosen, [2, 0, 128, 0], 2, 2)
            self.check(chosen, [2, 0] + [255] * 9, 1, 11)
            self.check(chosen, [2, 0] + [255] * 10, 2, 2)
            self.check(chosen, [2, 0, 0], 1, 3)
            self.check(chosen, [2, 0, 0, 128], 1, 4)
            self.check(chosen, [2, 0, 0, 129, 0], 2, 3)
            self.check(chosen, [2, 0, 0] + [255] * 11, 2, 3)

    def test_ten_bytes_are_taken(self):
        least = [255] * 9 + [1]
        self.taken(kind_i(64), [1, 0] + least + [0], [1, 0, 0, -2 ** 63, 0, -2 ** 63])
        self.check(kind_i(64), [1, 0] + [128] * 9 + [2, 0], 12, 2)
        self.check(kind_i(64), [1, 0] + [255] * 9 + [127, 0], 12, 2)


class CountFaultTest(FaultCase):
    def test_too_many_items(self):
        for chosen in (B, kind_i(8), kind_t(9)):
            self.check(chosen, MORE, 4, 0)
            self.check(chosen, MORE + MORE, 4, 0)

    def test_too_many_gaps(self):
        self.check(B, [0, 1], 4, 1)
        self.check(B, [1, 2], 4, 1)
        self.check(B, MILLION + MORE, 4, 3)
        self.check(kind_t(9), [172, 2, 173, 2, 9], 4, 2)

    def test_left(self):
        self.check(B, [0, 0, 0], 10, 2)
        self.check(B, [3, 3, 255, 255], 10, 2)
        self.check(B, MILLION + MILLION + [1], 10, 6)
        self.check(kind_i(8), [1, 0, 4, 0, 9, 9], 10, 4)
        self.check(kind_t(8), [1, 0, 0, 1, 5, 1, 5, 0], 10, 7)
        self.check(kind_t(9), [2, 0, 4, 0, 0], 10, 4)


class NumberFaultTest(FaultCase):
    def test_the_lower_bound_is_no_value(self):
        self.check(B, [1, 0, 1, 0], 12, 2)
        self.check(B, [1, 0, 4, 0], 12, 2)
        self.check(kind_i(8), [1, 0, 128, 2, 0], 12, 2)
        self.check(kind_i(8), [1, 0, 129, 2, 0], 12, 2)
        self.check(kind_i(2), [1, 0, 4], 12, 2)
        self.check(kind_i(2), [1, 0, 5], 12, 2)
        self.check(kind_i(8), [172, 2, 0, 128, 2], 12, 3)

    def test_the_upper_bound_is_no_value(self):
        self.check(B, [2, 0, 0, 2], 12, 3)
        self.check(B, [2, 0, 2, 1], 12, 3)
        self.check(kind_i(2), [2, 0, 3, 4], 12, 3)
        self.check(kind_i(8), [2, 0, 255, 1, 128, 2], 12, 4)
        self.check(kind_i(64), [2, 0, 0] + [128] * 9 + [1], 12, 3)
        self.check(kind_i(64), [2, 0] + [255] * 9 + [1] + [128] * 9 + [2], 12, 12)

    def test_one_value_has_one_bound(self):
        self.check(B, [1, 0, 0, 1], 16, 3)
        self.check(kind_i(8), [1, 0, 4, 2], 16, 3)
        self.check(kind_i(8), [5, 4, 128, 1, 1], 16, 4)
        self.taken(kind_i(8), [2, 0, 4, 2], [2, 0, 0, 2, 0, 4])

    def test_value_ahead_of_bounds_ahead_of_left(self):
        self.check(B, [1, 0, 2, 1, 7], 12, 3)
        self.check(B, [1, 0, 0, 1, 7], 16, 3)


class TextFaultTest(FaultCase):
    def test_mark(self):
        for chosen in (kind_t(1), kind_t(8), kind_t(9)):
            self.check(chosen, [1, 0], 1, 2)
            for mark in (6, 7, 8, 128, 255):
                self.check(chosen, [1, 0, mark], 11, 2)
        self.check(kind_t(9), [172, 2, 0, 6], 11, 3)

    def test_marks_of_short_texts(self):
        for size in (1, 7, 8):
            for mark in range(1, 6):
                self.check(kind_t(size), [2, 0, mark], 16, 2)
        for mark in range(1, 6):
            self.check(kind_t(9), [2, 0, mark], 1, 3)

    def test_the_count_of_the_lower_bound(self):
        self.check(kind_t(9), [2, 0, 0, 9], 12, 3)
        self.check(kind_t(999), [2, 0, 0, 255], 12, 3)
        self.check(kind_t(3), [2, 0, 0, 4], 12, 3)
        self.check(kind_t(1), [2, 0, 0, 2], 12, 3)
        for mark in (1, 3, 5):
            for count in (0, 1, 7, 9, 255):
                self.check(kind_t(9), [2, 0, mark, count], 12, 3)

    def test_the_lower_bound_is_cut_short(self):
        self.check(kind_t(9), [2, 0, 0, 3, 1, 2], 1, 6)
        self.check(kind_t(3), [2, 0, 0, 3], 1, 4)
        self.check(kind_t(9), [2, 0, 5, 8] + FULL[:7], 1, 11)

    def test_the_count_of_the_upper_bound(self):
        self.check(kind_t(9), [2, 0, 0, 0], 1, 4)
        self.check(kind_t(9), [2, 0, 0, 0, 9], 12, 4)
        self.check(kind_t(3), [2, 0, 0, 1, 5, 4], 12, 5)
        self.check(kind_t(9), [2, 0, 1, 8] + EIGHT + [9], 12, 12)
        for count in (0, 9, 255):
            self.check(kind_t(9), [2, 0, 2, 0, count], 12, 4)
            self.check(kind_t(999), [2, 0, 3, 8] + EIGHT + [count], 12, 12)

    def test_the_upper_bound_is_cut_short(self):
        self.check(kind_t(9), [2, 0, 0, 0, 2, 1], 1, 6)
        self.check(kind_t(9), [2, 0, 2, 0, 1], 1, 5)
        self.check(kind_t(9), [2, 0, 2, 0, 2, 0], 1, 6)

    def test_a_raised_bound_does_not_end_with_0(self):
        self.check(kind_t(9), [2, 0, 2, 0, 1, 0], 12, 4)
        self.check(kind_t(9), [2, 0, 2, 0, 3, 9, 9, 0], 12, 4)
        self.check(kind_t(9), [2, 0, 3, 8] + EIGHT + [2, 122, 0, 77], 12, 12)
        self.taken(kind_t(9), [2, 0, 0, 0, 1, 0], [2, 0, 0, 0, 0, 1, 0])

    def test_the_last_is_less_than_the_first(self):
        self.check(kind_t(8), [2, 0, 0, 1, 5, 1, 4], 16, 2)
        self.check(kind_t(8), [2, 0, 0, 1, 5, 0], 16, 2)
        self.check(kind_t(8), [172, 2, 0, 0, 2, 5, 0, 1, 5], 16, 3)
        self.check(kind_t(9), [2, 0, 1, 8] + EIGHT + [8] + EIGHT, 16, 2)
        self.check(kind_t(9), [2, 0, 2, 1, 6, 1, 6], 16, 2)
        self.check(kind_t(9), [2, 0, 3, 8] + ABOVE + [8] + ABOVE, 16, 2)
        self.check(kind_t(9), [3, 0, 3, 8] + ABOVE + [8] + ABOVE, 16, 2)

    def test_the_last_is_just_not_less_than_the_first(self):
        self.taken(kind_t(8), [2, 0, 0, 1, 5, 1, 5], [2, 0, 0, 1, 5, 0, 1, 5])
        self.taken(kind_t(9), [2, 0, 1, 8] + EIGHT + [8] + ABOVE, [2, 0, 1, 8] + EIGHT + [0, 8] + ABOVE)
        self.taken(kind_t(9), [2, 0, 2, 8] + EIGHT + [8] + ABOVE, [2, 0, 0, 8] + EIGHT + [1, 8] + ABOVE)
        self.taken(kind_t(9), [2, 0, 4, 8] + FULL, [2, 0, 0, 8] + FULL + [2])

    def test_one_value_may_be_the_least_and_the_greatest(self):
        self.check(kind_t(8), [1, 0, 0, 1, 5, 1, 6], 16, 2)
        self.check(kind_t(9), [1, 0, 1, 8] + EIGHT + [8] + ABOVE, 16, 2)
        self.check(kind_t(9), [1, 0, 2, 8] + EIGHT + [8] + ABOVE, 16, 2)
        self.check(kind_t(9), [1, 0, 3, 8] + EIGHT + [1, 98], 16, 2)
        self.check(kind_t(9), [1, 0, 4, 8] + FULL, 16, 2)
        self.check(kind_t(9), [1, 0, 5, 8] + FULL[:7] + [254], 16, 2)
        self.check(kind_t(9), [7, 6, 5, 8] + EIGHT, 16, 2)
        low = [97] + FULL[:7]
        self.taken(kind_t(9), [1, 0, 3, 8] + low + [1, 98], [1, 0, 1, 8] + low + [1, 1, 98])
        # Raising drops bytes 255 at the end, so here the stem ends in 254 and lies below the lower bound.
        self.check(kind_t(9), [1, 0, 3, 8] + low + [8, 97] + FULL[:7], 16, 2)

    def test_the_order_of_the_faults(self):
        self.check(kind_t(8), [1, 0, 6, 9, 9], 11, 2)
        self.check(kind_t(8), [1, 0, 5, 9, 9], 16, 2)
        self.check(kind_t(9), [1, 0, 2, 9, 0], 12, 3)
        self.check(kind_t(8), [1, 0, 0, 1, 5, 1, 4, 9], 16, 2)
        self.check(kind_t(9), [2, 0, 2, 1, 9, 1, 0, 9], 12, 5)


class CutTest(FaultCase):
    def test_a_cut_at_every_length(self):
        rows = [
            (B, [gaps(300)]),
            (B, [value(0), value(1), gaps(200)]),
            (kind_i(64), [value(-2 ** 63), value(2 ** 63 - 1), gaps(70000)]),
            (kind_t(8), [add(1, 1, EIGHT), add(500, 1, ABOVE)]),
            (kind_t(9), [add(1, 1, EIGHT), add(1, 1, EIGHT + [1])]),
            (kind_t(9), [add(3, 1, EIGHT + [1])]),
            (kind_t(999), [add(1, 1, EIGHT + [1]), add(1, 1, [255] * 999)]),
        ]
        for chosen, calls in rows:
            data = written(chosen, *calls)
            for count in range(len(data)):
                self.check(chosen, data[:count], 1, count)
            self.assertEqual(last_on(chosen, fault(data)), [0])
            self.check(chosen, data + [0], 10, len(data))


class RefusedReadTest(unittest.TestCase):
    def test_bounds_held_stay(self):
        for data in ([], [128, 0], [1, 2], [0, 0, 0], [2, 0, 6], [2, 0, 0, 9], [2, 0, 0, 1, 5, 1, 4]):
            held = [add(2, 1, EIGHT + [5]), gaps(1)]
            out = run_on(kind_t(9), *held, parts(), write(), read(data), parts(), write(), gaps(1))
            self.assertLess(out[4][0], -20)
            self.assertEqual(out[5:7], out[2:4], data)
            self.assertEqual(out[7], [4])
