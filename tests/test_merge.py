"""Point 8: merge, its refusals and their order, and bounds that meet."""

import unittest

from tests.support import (
    B, add, fault, gaps, kind_i, kind_t, last_on, merge, parts, read, run_on, text, value, write, written,
)

EIGHT = text("abcdefgh")
ABOVE = text("abcdefgi")
FULL = [255] * 8
MOST = 1000000
MILLION = [192, 132, 61]

# Bytes with a fault, for numbers of 8 bits and for texts of up to 9 bytes; the fault's kind with each.
NUMBER_FAULTS = [
    ([], 1), ([2], 1), ([2, 0], 1), ([2, 0, 4], 1), ([255] * 9, 1),
    ([128, 0], 2), ([255] * 10, 2), ([2, 0, 4, 129, 0], 2),
    ([193, 132, 61, 0], 4), ([1, 2], 4),
    ([0, 0, 0], 10), ([1, 0, 4, 0, 9], 10),
    ([2, 0, 128, 2, 0], 12), ([2, 0, 254, 1, 2], 12),
    ([1, 0, 4, 2], 16),
]
TEXT_FAULTS = [
    ([2, 0], 1), ([2, 0, 0, 1], 1), ([2, 0, 0, 0, 1], 1),
    ([2, 128, 0], 2),
    ([0, 1], 4),
    ([2, 0, 4, 0, 0], 10),
    ([2, 0, 6, 0, 0], 11),
    ([2, 0, 0, 9], 12), ([2, 0, 1, 7], 12), ([2, 0, 2, 0, 0], 12), ([2, 0, 2, 0, 1, 0], 12),
    ([2, 0, 0, 1, 5, 1, 4], 16), ([1, 0, 0, 1, 5, 1, 6], 16),
]


class MergedTest(unittest.TestCase):
    def test_the_answer_is_how_many_items_there_are_then(self):
        out = run_on(kind_i(8), value(5), gaps(2), merge([3, 1, 1, 9]), parts(), merge([3, 1, 1, 9]), parts())
        self.assertEqual(out[2:], [[6], [6, 3, 0, -1, 0, 8], [9], [9, 4, 0, -1, 0, 8]])

    def test_numbers_widen_on_either_side(self):
        for data, wanted in [([1, 0, 0, 0], [0, 5]), ([1, 0, 18, 0], [5, 9]), ([2, 0, 0, 9], [0, 9])]:
            out = last_on(kind_i(8), value(5), merge(data), parts())
            self.assertEqual(out, [1 + data[0], 0, 0, wanted[0], 0, wanted[1]])

    def test_numbers_inside_change_the_count_alone(self):
        out = last_on(kind_i(8), value(-5), value(5), merge([3, 1, 1, 2]), parts())
        self.assertEqual(out, [5, 1, 0, -5, 0, 5])

    def test_b(self):
        self.assertEqual(run_on(B, value(0), merge([1, 0, 2, 0]), parts())[1:], [[2], [2, 0, 0, 0, 0, 1]])

    def test_what_write_gives_is_merged(self):
        data = written(kind_t(9), add(3, 1, EIGHT + [7]), gaps(2))
        out = run_on(kind_t(9), add(1, 1, text("x")), merge(data), parts(), write())
        told = [1, 8] + EIGHT + [0, 1, 120]
        self.assertEqual(out[1:], [[6], [6, 2] + told, [14, 6, 2, 1, 8] + EIGHT + [1, 120]])

    def test_into_no_items_it_is_as_read(self):
        for chosen, data in [(kind_i(8), [3, 1, 1, 9]), (kind_t(9), [1, 0, 5, 8] + FULL), (B, [0, 0])]:
            self.assertEqual(run_on(chosen, merge(data), parts()), run_on(chosen, read(data), parts()))

    def test_what_is_merged_is_held_for_the_calls_behind(self):
        out = run_on(kind_i(8), merge([1, 0, 4, 0]), value(9), merge([1, 0, 20, 0]), write())
        self.assertEqual(out, [[1], [2], [3], [4, 3, 0, 4, 8]])


class NoBoundsTest(unittest.TestCase):
    def test_no_bounds_handed_over(self):
        held = [add(1, 1, EIGHT + [7]), add(1, 1, text("x"))]
        told = [1, 8] + EIGHT + [0, 1, 120]
        out = run_on(kind_t(9), *held, merge([0, 0]), parts(), merge([3, 3]), parts())
        self.assertEqual(out[2:], [[2], [2, 0] + told, [5], [5, 3] + told])

    def test_no_bounds_held(self):
        told = [1, 8] + FULL + [2]
        data = [1, 0, 5, 8] + FULL
        self.assertEqual(run_on(kind_t(9), merge(data), parts()), [[1], [1, 0] + told])
        self.assertEqual(run_on(kind_t(9), gaps(4), merge(data), parts())[1:], [[5], [5, 4] + told])

    def test_no_bounds_on_both_sides(self):
        self.assertEqual(run_on(B, merge([0, 0]), parts()), [[0], [0, 0]])
        self.assertEqual(run_on(B, gaps(4), merge([3, 3]), parts(), write())[1:], [[7], [7, 7], [2, 7, 7]])


class MeetingBoundsTest(unittest.TestCase):
    def both_ways(self, one, other, wanted):
        """Each of two rows of texts is once held and once handed over."""
        for held, handed in [(one, other), (other, one)]:
            data = written(kind_t(9), *[add(1, 1, item) for item in handed])
            out = last_on(kind_t(9), *[add(1, 1, item) for item in held], merge(data), parts())
            self.assertEqual(out, [len(one) + len(other), 0] + wanted, (held, handed))

    def test_lower_once_exact_and_once_cut(self):
        self.both_ways([EIGHT], [EIGHT + [0]], [0, 8] + EIGHT + [1, 8] + ABOVE)
        self.both_ways([FULL], [FULL + [0]], [0, 8] + FULL + [2])

    def test_upper_once_exact_and_once_raised(self):
        self.both_ways([EIGHT + [255]], [ABOVE], [1, 8] + EIGHT + [0, 8] + ABOVE)
        low = [97] + [255] * 7
        self.both_ways([low + [0]], [[98]], [1, 8] + low + [0, 1, 98])

    def test_both_bounds_once_exact(self):
        one = [EIGHT, ABOVE]
        other = [EIGHT + [1], EIGHT + [2]]
        self.both_ways(one, other, [0, 8] + EIGHT + [0, 8] + ABOVE)

    def test_the_same_cut_and_raised_on_both_sides(self):
        self.both_ways([EIGHT + [0]], [EIGHT + [255]], [1, 8] + EIGHT + [1, 8] + ABOVE)

    def test_the_lesser_and_the_greater_keep_what_they_are(self):
        self.both_ways([EIGHT + [0]], [text("abcdefg")], [0, 7] + text("abcdefg") + [1, 8] + ABOVE)
        self.both_ways([EIGHT + [0]], [text("b")], [1, 8] + EIGHT + [0, 1, 98])
        self.both_ways([EIGHT + [0]], [ABOVE + [0]], [1, 8] + EIGHT + [1, 8] + text("abcdefgj"))

    def test_an_exact_upper_bound_below_a_raised_one_of_the_same_beginning(self):
        self.both_ways([EIGHT], [EIGHT + [9], EIGHT + [8]], [0, 8] + EIGHT + [1, 8] + ABOVE)

    def test_open_on_one_side(self):
        for row in ([FULL], [[]], [EIGHT], [EIGHT + [1]], [[255] * 7 + [254, 3]]):
            lower = [1, 8] + row[0][:8] if len(row[0]) > 8 else [0, len(row[0])] + row[0]
            self.both_ways([FULL + [0]], row, lower + [2])

    def test_open_on_both_sides(self):
        self.both_ways([FULL + [0]], [FULL + [9]], [1, 8] + FULL + [2])
        self.both_ways([FULL + [0]], [text("a"), FULL + [9]], [0, 1, 97, 2])


class RefusedMergeTest(unittest.TestCase):
    def check(self, chosen, held, data, code):
        """The merge is refused with the fault's number, and what is held stays."""
        out = run_on(chosen, *held, parts(), write(), merge(data), parts(), write(), fault(data))
        self.assertEqual(out[-4], [-20 - code], data)
        self.assertEqual(out[-3:-1], out[-6:-4], data)
        self.assertEqual(out[-1][0], code, data)

    def test_each_fault(self):
        for data, code in NUMBER_FAULTS:
            for held in ([], [gaps(2)], [value(5), value(-7), gaps(1)]):
                self.check(kind_i(8), held, data, code)
        for data, code in TEXT_FAULTS:
            for held in ([], [gaps(2)], [add(2, 1, EIGHT + [5]), gaps(1)], [add(1, 1, FULL + [5])]):
                self.check(kind_t(9), held, data, code)

    def test_the_bytes_are_read_by_the_kind_held(self):
        out = run_on(B, merge([2, 0, 4, 0]))
        self.assertEqual(out, [[-32]])
        self.assertEqual(run_on(kind_i(3), merge([2, 0, 4, 0])), [[2]])
        self.assertEqual(run_on(kind_t(8), merge([2, 0, 4, 0])), [[-36]])
        self.assertEqual(run_on(kind_t(9), merge([2, 0, 4, 0])), [[2]])

    def test_too_many(self):
        out = run_on(kind_i(8), value(7), gaps(599999), merge([129, 181, 24, 0, 0, 2]), parts())
        self.assertEqual(out[1:], [[600000], [-5], [600000, 599999, 0, 7, 0, 7]])
        out = run_on(kind_i(8), value(7), gaps(599999), merge([128, 181, 24, 0, 0, 2]), parts())
        self.assertEqual(out[1:], [[600000], [MOST], [MOST, 599999, 0, 0, 0, 7]])

    def test_too_many_gaps(self):
        out = run_on(B, gaps(1), merge(MILLION + MILLION), parts(), write())
        self.assertEqual(out[1:], [[-5], [1, 1], [2, 1, 1]])

    def test_nothing_more_goes_in_but_no_items(self):
        full = [MOST, 0, 0, 7, 0, 7]
        out = run_on(kind_i(8), add(MOST, 1, [7]), merge([1, 1]), merge([1, 0, 0, 0]), merge([0, 0]), parts())
        self.assertEqual(out[1:], [[-5], [-5], [MOST], full])

    def test_a_fault_goes_ahead_of_too_many(self):
        for data, code in NUMBER_FAULTS:
            self.check(kind_i(8), [add(MOST, 1, [7])], data, code)
        for data, code in TEXT_FAULTS:
            self.check(kind_t(9), [gaps(MOST)], data, code)
