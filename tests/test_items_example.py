"""Points 12 and 13: items and example, number by number."""

import unittest

from tests.support import (
    B, add, example, gaps, items, judge, kind_i, kind_t, last_on, parts, run_on, text, told_items, value, write,
)

EIGHT = text("abcdefgh")
ABOVE = text("abcdefgi")
FULL = [255] * 8
BIG = 10 ** 18
HUGE = 10 ** 20

LESS, GREATER, SAME, BEGINS, ANY = 0, 1, 2, 3, 4


def texts(*rows):
    return [add(1, 1, row) for row in rows]


class ItemsTest(unittest.TestCase):
    def test_no_items(self):
        for chosen in (B, kind_i(8), kind_t(9)):
            self.assertEqual(last_on(chosen, items()), [0])

    def test_gaps_alone(self):
        for chosen in (B, kind_i(8), kind_t(9)):
            self.assertEqual(last_on(chosen, gaps(3), items()), [3, 0, 0, 0])

    def test_numbers(self):
        self.assertEqual(last_on(B, value(1), items()), [1, 1, 1])
        self.assertEqual(last_on(kind_i(8), value(5), value(-3), items()), [2, 1, -3, 1, 5])
        self.assertEqual(last_on(kind_i(8), value(5), value(-3), value(0), items()), [3, 1, -3, 1, -3, 1, 5])
        told = [7, 1, -3, 1, -3, 1, 5, 1, 5, 1, 5, 0, 0]
        self.assertEqual(last_on(kind_i(8), gaps(2), value(5), add(4, 1, [-3]), items()), told)

    def test_texts(self):
        self.assertEqual(last_on(kind_t(3), value(), items()), [1, 1, 0])
        self.assertEqual(last_on(kind_t(3), value(7, 8), value(), gaps(1), items()), [3, 1, 0, 1, 2, 7, 8, 0])

    def test_cut_and_raised_texts(self):
        first, last = [1, 9] + EIGHT + [0], [1, 12] + EIGHT + [255] * 4
        self.assertEqual(last_on(kind_t(12), *texts(EIGHT + [7]), items()), [1] + first)
        self.assertEqual(last_on(kind_t(12), *texts(EIGHT + [7], EIGHT + [9]), items()), [2] + first + last)
        told = [5] + first + first + last + last + [0]
        self.assertEqual(last_on(kind_t(12), add(4, 1, EIGHT + [7]), gaps(1), items()), told)

    def test_open_texts(self):
        for size in (9, 12, 999):
            told = [2, 1, 9] + FULL + [0] + [1, size] + [255] * size
            self.assertEqual(last_on(kind_t(size), add(2, 1, FULL + [5]), items()), told)

    def test_one_hundred_items(self):
        self.assertEqual(last_on(B, gaps(100), items()), [100] + [0] * 100)
        told = [100] + [1, 3] * 2 + [1, 4] * 98
        self.assertEqual(last_on(kind_i(8), add(50, 1, [3]), add(50, 1, [4]), items()), told)
        told = [100] + [1, 3] * 2 + [1, 4] * 47 + [0] * 51
        self.assertEqual(last_on(kind_i(8), add(48, 1, [3]), value(4), gaps(51), items()), told)

    def test_too_many_items(self):
        for count in (101, 102, 1000000):
            for chosen in (B, kind_i(8), kind_t(9)):
                self.assertEqual(last_on(chosen, gaps(count), items()), [-8])
                self.assertEqual(last_on(chosen, add(count, 1, [1]), items()), [-8])
        self.assertEqual(run_on(B, value(1), gaps(99), items(), gaps(1), items())[-1], [-8])

    def test_the_longest_answer(self):
        told = last_on(kind_t(999), add(100, 1, [255] * 999), items())
        self.assertEqual(len(told), 1 + 2 * 11 + 98 * 1001)
        told = last_on(kind_t(999), add(100, 1, [255] * 999), example(SAME, 1, [255] * 999))
        self.assertEqual(len(told), 1 + 11 + 99 * 1001)

    def test_nothing_is_changed(self):
        out = run_on(kind_t(9), add(3, 1, EIGHT + [7]), parts(), write(), items(), items(), parts(), write())
        self.assertEqual(out[3], out[4])
        self.assertEqual(out[5:], out[1:3])


class ExampleCase(unittest.TestCase):
    def told(self, chosen, calls, atom, want, literal):
        return last_on(chosen, *calls, example(atom, want, literal))

    def holding(self, chosen, calls, atom, literal, values):
        """The items with the chosen value, without gaps and with them; None if there is no such value."""
        for many in (0, 2):
            wanted = [-9] if values is None else told_items(chosen, values, many)
            self.assertEqual(self.told(chosen, calls + [gaps(many)], atom, 1, literal), wanted, (calls, literal))

    def failing(self, chosen, calls, atom, literal, values):
        """The items with the failing value; where there are gaps, the plain items."""
        wanted = [-9] if values is None else told_items(chosen, values, 0)
        self.assertEqual(self.told(chosen, calls, atom, 0, literal), wanted, (calls, literal))
        beside = calls + [gaps(2)]
        self.assertEqual(self.told(chosen, beside, atom, 0, literal), last_on(chosen, *beside, items()))


class NoValuesExampleTest(ExampleCase):
    def test_no_items(self):
        for chosen, literal in [(B, [1]), (kind_i(8), [1]), (kind_t(9), EIGHT)]:
            atoms = [(LESS, literal), (GREATER, literal), (SAME, literal), (ANY, [])]
            for atom, given in atoms + ([(BEGINS, []), (BEGINS, literal)] if chosen[0] == 2 else []):
                for want in (0, 1):
                    self.assertEqual(self.told(chosen, [], atom, want, given), [-9], (chosen, atom, want))

    def test_gaps_alone(self):
        for chosen, literal in [(B, [1]), (kind_i(8), [1]), (kind_t(9), EIGHT)]:
            atoms = [(LESS, literal), (GREATER, literal), (SAME, literal), (ANY, [])]
            for atom, given in atoms + ([(BEGINS, []), (BEGINS, literal)] if chosen[0] == 2 else []):
                self.assertEqual(self.told(chosen, [gaps(3)], atom, 1, given), [-9], (chosen, atom))
                self.assertEqual(self.told(chosen, [gaps(3)], atom, 0, given), [3, 0, 0, 0], (chosen, atom))


class NumberExampleTest(ExampleCase):
    def test_one_value(self):
        chosen, calls = kind_i(8), [value(5)]
        for atom, literal in [(LESS, [6]), (GREATER, [4]), (SAME, [5]), (ANY, [])]:
            self.holding(chosen, calls, atom, literal, [[5]])
            self.failing(chosen, calls, atom, literal, None)
        for atom, literal in [(LESS, [5]), (GREATER, [5]), (SAME, [4]), (SAME, [6])]:
            self.holding(chosen, calls, atom, literal, None)
            self.failing(chosen, calls, atom, literal, [[5]])

    def test_two_values(self):
        chosen, calls = kind_i(8), [value(3), value(7)]
        for atom, literal in [(LESS, [4]), (LESS, [8]), (GREATER, [6]), (GREATER, [2]), (SAME, [3]), (SAME, [7])]:
            self.holding(chosen, calls, atom, literal, [[3], [7]])
        for atom, literal in [(LESS, [3]), (GREATER, [7]), (SAME, [5]), (SAME, [2]), (SAME, [8])]:
            self.holding(chosen, calls, atom, literal, None)
        for atom, literal in [(LESS, [3]), (LESS, [7]), (GREATER, [3]), (GREATER, [7]), (SAME, [3]), (SAME, [7])]:
            self.failing(chosen, calls, atom, literal, [[3], [7]])
        for atom, literal in [(LESS, [8]), (GREATER, [2]), (ANY, [])]:
            self.failing(chosen, calls, atom, literal, None)

    def test_three_values(self):
        chosen, calls = kind_i(8), [value(3), value(7), value(6)]
        self.holding(chosen, calls, LESS, [4], [[3], [3], [7]])
        self.holding(chosen, calls, GREATER, [3], [[3], [7], [7]])
        self.holding(chosen, calls, SAME, [3], [[3], [3], [7]])
        self.holding(chosen, calls, SAME, [5], [[3], [5], [7]])
        self.holding(chosen, calls, SAME, [7], [[3], [7], [7]])
        self.holding(chosen, calls, ANY, [], [[3], [3], [7]])
        self.holding(chosen, calls, SAME, [8], None)
        self.failing(chosen, calls, LESS, [3], [[3], [3], [7]])
        self.failing(chosen, calls, LESS, [7], [[3], [7], [7]])
        self.failing(chosen, calls, GREATER, [3], [[3], [3], [7]])
        self.failing(chosen, calls, SAME, [3], [[3], [7], [7]])
        self.failing(chosen, calls, SAME, [7], [[3], [3], [7]])
        self.failing(chosen, calls, ANY, [], None)

    def test_five_values(self):
        chosen, calls = kind_i(8), [value(3), add(4, 1, [7])]
        self.holding(chosen, calls, SAME, [5], [[3], [5], [7], [7], [7]])
        self.failing(chosen, calls, LESS, [7], [[3], [7], [7], [7], [7]])

    def test_the_same_value_three_times(self):
        self.holding(B, [add(3, 1, [1])], SAME, [1], [[1], [1], [1]])
        self.failing(B, [add(3, 1, [1])], SAME, [1], None)
        self.failing(B, [add(3, 1, [1])], SAME, [0], [[1], [1], [1]])


class TextExampleTest(ExampleCase):
    def test_one_cut(self):
        chosen, calls = kind_t(12), texts(EIGHT + [7])
        first, last = EIGHT + [0], EIGHT + [255] * 4
        self.holding(chosen, calls, LESS, EIGHT + [1], [first])
        self.holding(chosen, calls, GREATER, EIGHT + [1], [last])
        self.holding(chosen, calls, SAME, EIGHT + [5, 5], [EIGHT + [5, 5]])
        self.holding(chosen, calls, SAME, EIGHT, None)
        self.holding(chosen, calls, ANY, [], [first])
        self.failing(chosen, calls, LESS, EIGHT + [1], [last])
        self.failing(chosen, calls, GREATER, EIGHT, None)
        self.failing(chosen, calls, GREATER, EIGHT + [0], [first])
        self.failing(chosen, calls, SAME, first, [last])
        self.failing(chosen, calls, SAME, last, [first])

    def test_two(self):
        chosen, calls = kind_t(12), texts(EIGHT + [7], EIGHT + [9])
        first, last, middle = EIGHT + [0], EIGHT + [255] * 4, EIGHT + [5]
        self.holding(chosen, calls, SAME, middle, [middle, last])
        self.holding(chosen, calls, GREATER, middle, [last, last])
        self.holding(chosen, calls, LESS, middle, [first, last])
        self.failing(chosen, calls, LESS, middle, [last, last])
        self.failing(chosen, calls, GREATER, middle, [first, last])

    def test_two_far_apart(self):
        chosen, calls = kind_t(12), texts(text("abc"), EIGHT + [7])
        last, middle = EIGHT + [255] * 4, EIGHT + [5]
        self.holding(chosen, calls, SAME, middle, [text("abc"), middle])
        self.holding(chosen, calls, GREATER, middle, [text("abc"), last])
        self.failing(chosen, calls, LESS, EIGHT + [5], [text("abc"), last])
        calls = texts(EIGHT + [7], text("x"))
        self.holding(chosen, calls, SAME, middle, [middle, text("x")])
        self.holding(chosen, calls, SAME, text("x"), [EIGHT + [0], text("x")])

    def test_three(self):
        chosen, calls = kind_t(12), texts(EIGHT + [7], EIGHT + [8], FULL + [1])
        first, last = EIGHT + [0], [255] * 12
        self.holding(chosen, calls, SAME, text("b"), [first, text("b"), last])
        self.holding(chosen, calls, LESS, text("b"), [first, first, last])
        self.holding(chosen, calls, GREATER, FULL, [first, last, last])
        self.failing(chosen, calls, LESS, last, [first, last, last])


class BeginsExampleTest(ExampleCase):
    def test_one_exact(self):
        chosen, calls = kind_t(12), texts(text("abc"))
        for literal in ([], text("a"), text("abc")):
            self.holding(chosen, calls, BEGINS, literal, [text("abc")])
            self.failing(chosen, calls, BEGINS, literal, None)
        for literal in (text("abcd"), text("abd"), text("b"), [0]):
            self.holding(chosen, calls, BEGINS, literal, None)
            self.failing(chosen, calls, BEGINS, literal, [text("abc")])

    def test_one_cut(self):
        chosen, calls = kind_t(12), texts(EIGHT + [7])
        for literal in ([], EIGHT[:1], EIGHT[:7], EIGHT):
            self.holding(chosen, calls, BEGINS, literal, [EIGHT + [0]])
            self.failing(chosen, calls, BEGINS, literal, None)
        for literal in (EIGHT + [5], EIGHT + [0, 0], EIGHT + [255] * 4):
            self.holding(chosen, calls, BEGINS, literal, [literal])
            self.failing(chosen, calls, BEGINS, literal, [EIGHT + [0]])
        self.holding(chosen, calls, BEGINS, EIGHT + [0], [EIGHT + [0]])
        self.failing(chosen, calls, BEGINS, EIGHT + [0], [EIGHT + [255] * 4])
        for literal in (ABOVE, ABOVE + [0], EIGHT[:7] + [103, 0], [98]):
            self.holding(chosen, calls, BEGINS, literal, None)

    def test_two_by_the_lower_bound(self):
        chosen, calls = kind_t(12), texts(EIGHT + [7], text("b"))
        for literal in ([], EIGHT[:1], EIGHT):
            self.holding(chosen, calls, BEGINS, literal, [EIGHT + [0], text("b")])
        self.holding(chosen, calls, BEGINS, EIGHT + [5], [EIGHT + [5], text("b")])
        self.holding(chosen, calls, BEGINS, text("b"), [EIGHT + [0], text("b")])
        for literal in (text("ba"), ABOVE, text("ac")):
            self.holding(chosen, calls, BEGINS, literal, None)
        self.failing(chosen, calls, BEGINS, EIGHT[:1], [EIGHT + [0], text("b")])
        self.failing(chosen, calls, BEGINS, text("b"), [EIGHT + [0], text("b")])

    def test_two_by_the_stem(self):
        stem = [122] + [255] * 7
        chosen, calls = kind_t(12), texts(text("abc"), stem + [3])
        for literal in ([122], [122, 255], stem, stem + [0]):
            self.holding(chosen, calls, BEGINS, literal, [text("abc"), stem + [0]])
        self.holding(chosen, calls, BEGINS, stem + [5], [text("abc"), stem + [5]])
        self.holding(chosen, calls, BEGINS, stem + [255] * 4, [text("abc"), stem + [255] * 4])
        for literal in ([123], [122, 254], stem[:7] + [254, 0]):
            self.holding(chosen, calls, BEGINS, literal, None)
        # The empty literal is the beginning of both; the lower bound goes ahead.
        self.holding(chosen, calls, BEGINS, [], [text("abc"), stem + [255] * 4])

    def test_two_by_an_open_stem(self):
        chosen, calls = kind_t(9), texts(text("abc"), FULL + [3])
        for literal in ([255], FULL, FULL + [0]):
            self.holding(chosen, calls, BEGINS, literal, [text("abc"), FULL + [0]])
        self.holding(chosen, calls, BEGINS, FULL + [9], [text("abc"), FULL + [9]])
        self.holding(chosen, calls, BEGINS, [254], None)

    def test_two_with_the_lower_bound_exact_and_the_same_stem(self):
        chosen, calls = kind_t(12), texts(EIGHT, EIGHT + [7])
        self.holding(chosen, calls, BEGINS, EIGHT, [EIGHT, EIGHT + [255] * 4])
        self.holding(chosen, calls, BEGINS, EIGHT + [5], [EIGHT, EIGHT + [5]])
        self.failing(chosen, calls, BEGINS, EIGHT, None)
        self.failing(chosen, calls, BEGINS, EIGHT + [255], [EIGHT, EIGHT + [255] * 4])

    def test_three_and_more(self):
        chosen, calls = kind_t(12), texts(EIGHT + [7], ABOVE, text("b"))
        first, last = EIGHT + [0], text("b")
        for literal in ([], EIGHT[:1], EIGHT, EIGHT + [0]):
            self.holding(chosen, calls, BEGINS, literal, [first, first, last])
        for literal in (EIGHT + [0, 0], EIGHT + [5], ABOVE, text("ac"), text("az") + FULL):
            self.holding(chosen, calls, BEGINS, literal, [first, literal, last])
        self.holding(chosen, calls, BEGINS, text("b"), [first, last, last])
        for literal in (text("ba"), text("b") + [0], text("abcdefgg") + [255] * 4, [97, 98, 98]):
            self.holding(chosen, calls, BEGINS, literal, None)
        self.failing(chosen, calls, BEGINS, text("a"), [first, last, last])
        self.failing(chosen, calls, BEGINS, text("b"), [first, first, last])
        self.failing(chosen, calls, BEGINS, [], None)


class ExampleSizeTest(ExampleCase):
    def test_one_hundred_and_one_hundred_and_one(self):
        for many, wanted in [(100, False), (101, True)]:
            calls = [value(3), add(many - 1, 1, [7])]
            told = self.told(kind_i(8), calls, SAME, 1, [5])
            self.assertEqual(told, [-8] if wanted else told_items(kind_i(8), [[3], [5]] + [[7]] * 98, 0))
            told = self.told(kind_i(8), calls, SAME, 0, [3])
            self.assertEqual(told, [-8] if wanted else told_items(kind_i(8), [[3]] + [[7]] * 99, 0))
            told = self.told(kind_i(8), [gaps(many)], SAME, 0, [3])
            self.assertEqual(told, [-8] if wanted else [100] + [0] * 100)

    def test_values_and_gaps_are_counted_together(self):
        calls = [value(3), value(7), gaps(98)]
        self.assertEqual(self.told(kind_i(8), calls, ANY, 1, []), told_items(kind_i(8), [[3], [7]], 98))
        self.assertEqual(self.told(kind_i(8), calls + [gaps(1)], ANY, 1, []), [-8])


class ExampleRefusalTest(ExampleCase):
    def test_each_wrong_atom_is_refused_as_judge_does(self):
        rows = [(B, -1, [1]), (B, 5, []), (B, BIG, [1]), (B, -BIG, [1])]
        rows += [(B, BEGINS, [1]), (B, ANY, [1]), (B, SAME, [2])]
        rows += [(kind_i(8), BEGINS, [1]), (kind_i(8), LESS, []), (kind_i(8), GREATER, [128]), (kind_i(8), ANY, [0])]
        rows += [(kind_t(9), BEGINS, [0] * 10), (kind_t(9), SAME, [256]), (kind_t(9), ANY, [0]), (kind_t(9), 5, [])]
        rows += [(kind_t(9), LESS, [-1]), (kind_i(64), SAME, [HUGE]), (kind_i(64), SAME, [1, 1])]
        for chosen, atom, literal in rows:
            for calls in ([], [gaps(2)], [value(1)], [add(1000, 1, [1])]):
                self.assertEqual(last_on(chosen, *calls, judge(atom, literal)), [-4], (chosen, atom, literal))
                for want in (0, 1, 2, -1, BIG):
                    self.assertEqual(self.told(chosen, calls, atom, want, literal), [-4], (chosen, atom, literal))

    def test_want(self):
        for want in (-1, 2, 3, BIG, -BIG):
            for calls in ([], [gaps(2)], [value(1)], [gaps(101)], [add(1000, 1, [1])]):
                self.assertEqual(self.told(B, calls, SAME, want, [1]), [-3], want)
                self.assertEqual(self.told(B, calls, ANY, want, []), [-3], want)

    def test_too_many_items_go_ahead_of_no_example(self):
        for want in (0, 1):
            literal = [1] if want == 0 else [0]
            self.assertEqual(self.told(B, [add(100, 1, [1])], SAME, want, literal), [-9])
            self.assertEqual(self.told(B, [add(101, 1, [1])], SAME, want, literal), [-8])

    def test_a_refused_example_changes_nothing(self):
        held = [value(3), value(7), parts(), write()]
        asked = [example(7, 1, []), example(SAME, 2, [3]), example(SAME, 1, [5]), example(SAME, 1, [3])]
        out = run_on(kind_i(8), *held, *asked, parts(), write())
        self.assertEqual(out[4:8], [[-4], [-3], [-9], [2, 1, 3, 1, 7]])
        self.assertEqual(out[8:], out[2:4])
