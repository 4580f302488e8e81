"""The examples of the document, number by number."""

import unittest

from tests.support import (
    add, between, example, fault, judge, kind, kind_i, kind_t, last_on, merge, parts, read, run, run_on, text, value,
    write,
)


class ExampleTest(unittest.TestCase):
    def test_abcdefghi_and_abcdefgh(self):
        out = run(
            kind(2, 12), add(1, 1, text("abcdefghi")), add(1, 1, text("abcdefgh")), parts(), write(),
        )
        self.assertEqual(out[:3], [[0], [1], [2]])
        self.assertEqual(out[3], [2, 0, 0, 8] + text("abcdefgh") + [1, 8] + text("abcdefgi"))
        self.assertEqual(out[4], [
            21, 2, 0, 2, 8, 97, 98, 99, 100, 101, 102, 103, 104, 8, 97, 98, 99, 100, 101, 102, 103, 105,
        ])

    def test_what_abcdefghi_and_abcdefgh_promise(self):
        out = run(
            kind(2, 12), add(1, 1, text("abcdefghi")), add(1, 1, text("abcdefgh")), between(),
            judge(2, text("abcdefghz")), judge(2, text("abcdefg")), judge(3, text("abcd")), judge(1, text("abcdefgh")),
            judge(0, text("abcdefgh")),
        )
        first = [8, 97, 98, 99, 100, 101, 102, 103, 104]
        last = [12, 97, 98, 99, 100, 101, 102, 103, 104, 255, 255, 255, 255]
        self.assertEqual(out[3], [0] + first + last)
        self.assertEqual(out[4:], [[2], [0], [1], [2], [0]])

    def test_1_and_5(self):
        out = run(
            kind(1, 8), add(1, 1, [1]), add(1, 1, [5]), judge(2, [3]),
            add(1, 1, [1]), judge(2, [3]), example(2, 1, [3]),
        )
        self.assertEqual(out, [[0], [1], [2], [0], [3], [2], [3, 1, 1, 1, 3, 1, 5]])

    def test_97_and_eight_times_255(self):
        out = last_on(kind_t(9), value(97, *[255] * 8), parts())
        self.assertEqual(out, [1, 0, 1, 8, 97, 255, 255, 255, 255, 255, 255, 255, 1, 1, 98])

    def test_faults(self):
        for data, wanted in [([1, 0, 4, 2], [16, 3]), ([2, 0, 254, 1, 2], [12, 4]), ([1, 2], [4, 1])]:
            self.assertEqual(last_on(kind_i(8), fault(data)), wanted)
            self.assertEqual(run_on(kind_i(8), read(data), merge(data)), [[-20 - wanted[0]]] * 2)

    def test_short_numbers(self):
        for data, wanted in [([128, 0], [2, 0]), ([255] * 9, [1, 9]), ([255] * 10, [2, 0])]:
            self.assertEqual(last_on(kind_i(8), fault(data)), wanted)
