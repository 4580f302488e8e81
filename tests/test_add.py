"""Point 3: add, which merges, and its refusals."""

import unittest

from tests.support import B, add, gaps, kind_i, kind_t, last_on, parts, run_on, text, value, write

BIG = 10 ** 18
HUGE = 10 ** 20
MOST = 1000000


class CountTest(unittest.TestCase):
    def test_items_are_counted(self):
        out = run_on(kind_i(8), value(3), add(4, 1, [7]), gaps(2), parts())
        self.assertEqual(out, [[1], [5], [7], [7, 2, 0, 3, 0, 7]])

    def test_gaps_alone_have_no_bounds(self):
        self.assertEqual(run_on(kind_t(5), gaps(3), parts(), write()), [[3], [3, 3], [2, 3, 3]])

    def test_gaps_ahead_of_values(self):
        self.assertEqual(last_on(kind_i(8), gaps(3), value(-7), parts()), [4, 3, 0, -7, 0, -7])

    def test_times_0_adds_nothing(self):
        out = run_on(kind_i(8), add(0, 1, [9]), gaps(0), parts(), value(1), add(0, 1, [9]), gaps(0), parts())
        self.assertEqual(out, [[0], [0], [0, 0], [1], [1], [1], [1, 0, 0, 1, 0, 1]])

    def test_as_many_as_may_be(self):
        out = run_on(B, add(MOST, 1, [1]), parts(), add(0, 1, [0]), gaps(0), value(0), gaps(1), parts())
        full = [MOST, 0, 0, 1, 0, 1]
        self.assertEqual(out, [[MOST], full, [MOST], [MOST], [-5], [-5], full])


class RefusalTest(unittest.TestCase):
    def test_times_and_there(self):
        for times, there in [(-1, 1), (-1, 0), (-BIG, 0), (1, -1), (1, 2), (0, BIG), (1, -BIG), (-1, 7)]:
            self.assertEqual(last_on(B, add(times, there, [])), [-3], (times, there))
            self.assertEqual(last_on(B, add(times, there, [1])), [-3], (times, there))

    def test_a_gap_with_a_value(self):
        for chosen in (B, kind_i(8), kind_t(8)):
            self.assertEqual(last_on(chosen, add(1, 0, [0])), [-4], chosen)
            self.assertEqual(last_on(chosen, add(0, 0, [1, 2])), [-4], chosen)

    def test_no_value_of_b(self):
        for row in [[], [2], [-1], [0, 0], [HUGE], [-HUGE]]:
            self.assertEqual(last_on(B, add(1, 1, row)), [-4], row)

    def test_no_value_of_i(self):
        for size in (2, 3, 8, 63, 64):
            half = 2 ** (size - 1)
            for row in [[], [half], [-half - 1], [0, 0], [HUGE], [-HUGE], [1] * 1100]:
                self.assertEqual(last_on(kind_i(size), add(1, 1, row)), [-4], (size, row))

    def test_no_value_of_t(self):
        for size in (1, 7, 8, 9, 999):
            wrong = [[0] * (size + 1), [0] * 1100, [256], [-1], [0] * (size - 1) + [256], [HUGE], [-HUGE]]
            for row in wrong:
                self.assertEqual(last_on(kind_t(size), add(1, 1, row)), [-4], (size, row))

    def test_a_wrong_value_is_refused_though_times_is_0(self):
        self.assertEqual(last_on(kind_i(8), add(0, 1, [128])), [-4])
        self.assertEqual(last_on(kind_i(8), add(0, 1, [])), [-4])

    def test_too_many(self):
        for times in (MOST + 1, BIG):
            self.assertEqual(last_on(B, add(times, 1, [1])), [-5], times)
            self.assertEqual(last_on(B, gaps(times)), [-5], times)
        self.assertEqual(run_on(B, gaps(400000), add(600001, 1, [1]), add(600000, 1, [1])), [[400000], [-5], [MOST]])

    def test_the_order_of_the_refusals(self):
        out = run_on(B, add(BIG, 2, [5]), add(-1, 1, [5]), add(BIG, 1, [5]), add(BIG, 0, [1]), add(BIG, 1, [1]))
        self.assertEqual(out, [[-3], [-3], [-4], [-4], [-5]])

    def test_a_refused_add_changes_nothing(self):
        for call in [add(-1, 1, [9]), add(1, 2, [9]), add(1, 0, [9]), add(1, 1, [99]), add(MOST, 1, [7]), gaps(MOST)]:
            out = run_on(kind_i(4), value(3), gaps(1), call, parts())
            self.assertLess(out[2][0], 0)
            self.assertEqual(out[3], [2, 1, 0, 3, 0, 3], call)


class NumberBoundsTest(unittest.TestCase):
    def test_b(self):
        self.assertEqual(last_on(B, value(1), parts()), [1, 0, 0, 1, 0, 1])
        self.assertEqual(last_on(B, value(1), value(0), parts()), [2, 0, 0, 0, 0, 1])

    def test_the_least_and_the_greatest_values_of_i(self):
        for size in (2, 64):
            half = 2 ** (size - 1)
            self.assertEqual(last_on(kind_i(size), value(-half), parts()), [1, 0, 0, -half, 0, -half])
            self.assertEqual(last_on(kind_i(size), value(half - 1), parts()), [1, 0, 0, half - 1, 0, half - 1])
            out = last_on(kind_i(size), value(half - 1), value(0), value(-half), parts())
            self.assertEqual(out, [3, 0, 0, -half, 0, half - 1])

    def test_order_is_by_number(self):
        self.assertEqual(last_on(kind_i(16), value(10), value(9), value(-300), parts()), [3, 0, 0, -300, 0, 10])


class TextBoundsTest(unittest.TestCase):
    def bounds(self, size, *texts):
        return last_on(kind_t(size), *[add(1, 1, one) for one in texts], parts())[2:]

    def test_the_empty_text(self):
        self.assertEqual(self.bounds(4, []), [0, 0, 0, 0])
        self.assertEqual(self.bounds(4, [7], []), [0, 0, 0, 1, 7])

    def test_order_of_texts(self):
        self.assertEqual(self.bounds(4, text("b"), text("abc"), text("ab")), [0, 2, 97, 98, 0, 1, 98])
        self.assertEqual(self.bounds(4, [255], [0], [0, 0], [128, 255, 255]), [0, 1, 0, 0, 1, 255])

    def test_up_to_8_bytes_are_exact(self):
        for size, count in [(1, 1), (7, 7), (8, 8), (9, 8), (999, 8)]:
            for byte in (0, 97, 255):
                row = [byte] * count
                self.assertEqual(self.bounds(size, row), [0, count] + row + [0, count] + row)

    def test_over_8_bytes_are_cut_and_raised(self):
        for size, count in [(9, 9), (10, 9), (999, 9), (999, 999)]:
            row = text("abcdefgh") + [0] * (count - 8)
            wanted = [1, 8] + text("abcdefgh") + [1, 8] + text("abcdefgi")
            self.assertEqual(self.bounds(size, row), wanted)

    def test_bytes_255_at_the_end_are_dropped(self):
        for kept in range(1, 9):
            head = list(range(10, 10 + kept))
            cut = head + [255] * (8 - kept)
            raised = head[:-1] + [head[-1] + 1]
            self.assertEqual(self.bounds(12, cut + [0]), [1, 8] + cut + [1, kept] + raised)

    def test_a_byte_254_is_raised_to_255(self):
        row = [255] * 7 + [254]
        self.assertEqual(self.bounds(9, row + [1]), [1, 8] + row + [1, 8] + [255] * 8)
        self.assertEqual(self.bounds(9, [254] + [255] * 8), [1, 8, 254] + [255] * 7 + [1, 1, 255])

    def test_bytes_255_before_another_stay(self):
        row = [255, 255, 3, 255, 255, 255, 255, 255]
        self.assertEqual(self.bounds(9, row + [255]), [1, 8] + row + [1, 3, 255, 255, 4])

    def test_all_8_bytes_255_are_open(self):
        full = [255] * 8
        self.assertEqual(self.bounds(9, full + [0]), [1, 8] + full + [2])
        self.assertEqual(self.bounds(9, full + [255]), [1, 8] + full + [2])
        self.assertEqual(self.bounds(9, full), [0, 8] + full + [0, 8] + full)

    def test_open_stays_open(self):
        full = [255] * 8
        for other in (full, [], text("abc"), full + [9], text("abcdefghi")):
            for row in [(full + [0], other), (other, full + [0])]:
                self.assertEqual(self.bounds(9, *row)[-1], 2, row)


class SameBoundTest(unittest.TestCase):
    def both_ways(self, one, other, wanted):
        for row in [(one, other), (other, one)]:
            calls = [add(1, 1, item) for item in row]
            self.assertEqual(last_on(kind_t(9), *calls, parts()), wanted, row)

    def test_lower_once_exact_and_once_cut(self):
        eight = text("abcdefgh")
        self.both_ways(eight, eight + [0], [2, 0, 0, 8] + eight + [1, 8] + text("abcdefgi"))

    def test_upper_once_exact_and_once_raised(self):
        raised = text("abcdefgi")
        self.both_ways(text("abcdefghz"), raised, [2, 0, 1, 8] + text("abcdefgh") + [0, 8] + raised)

    def test_upper_of_one_byte_once_exact_and_once_raised(self):
        low = [97] + [255] * 7
        self.both_ways(low + [255], [98], [2, 0, 1, 8] + low + [0, 1, 98])

    def test_the_same_cut_and_raised_twice(self):
        eight = text("abcdefgh")
        self.both_ways(eight + [0], eight + [255], [2, 0, 1, 8] + eight + [1, 8] + text("abcdefgi"))

    def test_the_lesser_and_the_greater_keep_what_they_are(self):
        self.both_ways(text("abcdefghi"), text("z"), [2, 0, 1, 8] + text("abcdefgh") + [0, 1, 122])
        self.both_ways(text("a"), text("abcdefghi"), [2, 0, 0, 1, 97, 1, 8] + text("abcdefgi"))
