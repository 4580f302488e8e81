"""Points 4 and 5: parts and write, and the numbers that the words write as bytes."""

import unittest

from tests.support import B, add, gaps, kind_i, kind_t, last_on, parts, run_on, text, value, write, written

MOST = 1000000


class PartsTest(unittest.TestCase):
    def test_no_items(self):
        for chosen in (B, kind_i(2), kind_t(1)):
            self.assertEqual(last_on(chosen, parts()), [0, 0])

    def test_numbers_stand_alone(self):
        self.assertEqual(last_on(kind_i(8), value(-3), value(9), gaps(1), parts()), [3, 1, 0, -3, 0, 9])

    def test_texts_stand_behind_their_counts(self):
        self.assertEqual(last_on(kind_t(3), value(), value(1, 2, 3), parts()), [2, 0, 0, 0, 0, 3, 1, 2, 3])

    def test_nothing_is_changed(self):
        out = run_on(kind_i(8), value(4), parts(), write(), parts(), write())
        self.assertEqual(out[1], out[3])
        self.assertEqual(out[2], out[4])


class ShortTest(unittest.TestCase):
    def test_examples(self):
        for number, wanted in [(0, [0]), (127, [127]), (128, [128, 1]), (300, [172, 2]), (MOST, [192, 132, 61])]:
            self.assertEqual(written(B, gaps(number)), wanted + wanted)

    def test_edges(self):
        for number, wanted in [(1, [1]), (255, [255, 1]), (16383, [255, 127]), (16384, [128, 128, 1])]:
            self.assertEqual(written(B, gaps(number)), wanted + wanted)


class SignedTest(unittest.TestCase):
    def test_examples(self):
        examples = [(0, [0]), (-1, [1]), (1, [2]), (-2, [3]), (-64, [127]), (64, [128, 1]), (-65, [129, 1])]
        for number, wanted in examples:
            self.assertEqual(written(kind_i(8), value(number)), [1, 0] + wanted + [0])

    def test_the_least_and_the_greatest(self):
        self.assertEqual(written(kind_i(2), value(-2), value(1)), [2, 0, 3, 3])
        self.assertEqual(written(kind_i(64), value(-2 ** 63)), [1, 0] + [255] * 9 + [1, 0])
        self.assertEqual(written(kind_i(64), value(2 ** 63 - 1)), [1, 0, 254] + [255] * 8 + [1, 0])
        both = written(kind_i(64), value(-2 ** 63), value(2 ** 63 - 1))
        self.assertEqual(both, [2, 0] + [255] * 9 + [1] + [255] * 9 + [1])


class WriteTest(unittest.TestCase):
    def test_the_count_stands_first(self):
        self.assertEqual(last_on(B, write()), [2, 0, 0])
        self.assertEqual(last_on(kind_i(8), value(5), write()), [4, 1, 0, 10, 0])

    def test_gaps_alone(self):
        self.assertEqual(written(kind_t(9), gaps(5)), [5, 5])

    def test_b(self):
        self.assertEqual(written(B, value(0)), [1, 0, 0, 0])
        self.assertEqual(written(B, value(1)), [1, 0, 2, 0])
        self.assertEqual(written(B, value(1), value(0), gaps(1)), [3, 1, 0, 1])

    def test_how_much_the_upper_bound_is_above(self):
        self.assertEqual(written(kind_i(16), value(-100), value(200)), [2, 0, 199, 1, 172, 2])

    def test_texts_exact(self):
        self.assertEqual(written(kind_t(3), value()), [1, 0, 0, 0, 0])
        self.assertEqual(written(kind_t(3), value(7), value(8, 0), gaps(2)), [4, 2, 0, 1, 7, 2, 8, 0])

    def test_the_marks(self):
        eight = text("abcdefgh")
        above = text("abcdefgi")
        full = [255] * 8
        rows = [
            ([[97], [98]], [0, 1, 97, 1, 98]),
            ([eight + [0], [122]], [1, 8] + eight + [1, 122]),
            ([[97], eight + [0]], [2, 1, 97, 8] + above),
            ([eight + [0]], [3, 8] + eight + [8] + above),
            ([[97], full + [0]], [4, 1, 97]),
            ([full + [0]], [5, 8] + full),
        ]
        for texts, wanted in rows:
            calls = [add(1, 1, one) for one in texts]
            self.assertEqual(written(kind_t(9), *calls), [len(texts), 0] + wanted)
