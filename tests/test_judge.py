"""Point 11: judge, atom by atom, with few and many values, with and without gaps."""

import unittest

from tests.support import B, add, gaps, judge, kind_i, kind_t, last_on, parts, run_on, text, value, write

EIGHT = text("abcdefgh")
ABOVE = text("abcdefgi")
FULL = [255] * 8
BIG = 10 ** 18
HUGE = 10 ** 20

LESS, GREATER, SAME, BEGINS, ANY = 0, 1, 2, 3, 4
NEVER, ALWAYS, MAYBE = 0, 1, 2


def texts(*rows):
    return [add(1, 1, row) for row in rows]


class JudgeCase(unittest.TestCase):
    def check(self, chosen, calls, rows):
        """Each row: atom, literal, judgement without gaps. With gaps always becomes maybe."""
        for atom, literal, wanted in rows:
            self.assertEqual(last_on(chosen, *calls, judge(atom, literal)), [wanted], (calls, atom, literal))
            beside_gaps = MAYBE if wanted == ALWAYS else wanted
            told = last_on(chosen, gaps(2), *calls, gaps(1), judge(atom, literal))
            self.assertEqual(told, [beside_gaps], (calls, atom, literal))


class NoValuesTest(JudgeCase):
    def test_never(self):
        for chosen, literals in [(B, [[0], [1]]), (kind_i(8), [[-128], [127]]), (kind_t(9), [[], FULL + [255]])]:
            for literal in literals:
                rows = [(atom, literal, NEVER) for atom in (LESS, GREATER, SAME)] + [(ANY, [], NEVER)]
                self.check(chosen, [], rows)
        self.check(kind_t(9), [], [(BEGINS, [], NEVER), (BEGINS, EIGHT, NEVER)])


class NumberTest(JudgeCase):
    def test_less(self):
        for calls in ([value(3), value(7)], [value(3), value(7), value(5)], [value(7), add(9, 1, [3])]):
            rows = [(LESS, [-128], NEVER), (LESS, [3], NEVER), (LESS, [4], MAYBE), (LESS, [7], MAYBE)]
            self.check(kind_i(8), calls, rows + [(LESS, [8], ALWAYS), (LESS, [127], ALWAYS)])

    def test_greater(self):
        for calls in ([value(3), value(7)], [value(3), value(7), value(5)], [value(3), add(9, 1, [7])]):
            rows = [(GREATER, [127], NEVER), (GREATER, [7], NEVER), (GREATER, [6], MAYBE), (GREATER, [3], MAYBE)]
            self.check(kind_i(8), calls, rows + [(GREATER, [2], ALWAYS), (GREATER, [-128], ALWAYS)])

    def test_one_value(self):
        rows = [(LESS, [5], NEVER), (LESS, [6], ALWAYS), (GREATER, [5], NEVER), (GREATER, [4], ALWAYS)]
        rows += [(SAME, [4], NEVER), (SAME, [5], ALWAYS), (SAME, [6], NEVER), (ANY, [], ALWAYS)]
        self.check(kind_i(8), [value(5)], rows)

    def test_the_same_of_two(self):
        rows = [(SAME, [3], MAYBE), (SAME, [5], NEVER), (SAME, [7], MAYBE), (SAME, [2], NEVER), (SAME, [8], NEVER)]
        self.check(kind_i(8), [value(3), value(7)], rows)
        self.check(kind_i(8), [add(2, 1, [3])], [(SAME, [3], ALWAYS), (SAME, [4], NEVER)])

    def test_the_same_of_three_and_more(self):
        rows = [(SAME, [3], MAYBE), (SAME, [5], MAYBE), (SAME, [7], MAYBE), (SAME, [2], NEVER), (SAME, [8], NEVER)]
        self.check(kind_i(8), [value(3), value(7), value(7)], rows)
        self.check(kind_i(8), [value(3), add(500000, 1, [7])], rows)
        self.check(kind_i(8), [add(3, 1, [3])], [(SAME, [3], ALWAYS), (SAME, [4], NEVER)])

    def test_any(self):
        for calls in ([value(3)], [value(3), value(7)], [add(3, 1, [3])], [value(3), add(999990, 1, [4])]):
            self.check(kind_i(8), calls, [(ANY, [], ALWAYS)])

    def test_b(self):
        rows = [(LESS, [0], NEVER), (LESS, [1], MAYBE), (GREATER, [0], MAYBE), (GREATER, [1], NEVER)]
        rows += [(SAME, [0], MAYBE), (SAME, [1], MAYBE), (ANY, [], ALWAYS)]
        self.check(B, [value(0), value(1)], rows)
        rows = [(LESS, [1], NEVER), (GREATER, [0], ALWAYS), (SAME, [1], ALWAYS), (SAME, [0], NEVER)]
        self.check(B, [value(1)], rows)

    def test_the_widest_numbers(self):
        half = 2 ** 63
        rows = [(LESS, [-half], NEVER), (GREATER, [half - 1], NEVER), (SAME, [-half], MAYBE), (SAME, [0], NEVER)]
        self.check(kind_i(64), [value(-half), value(half - 1)], rows)


class TextTest(JudgeCase):
    def test_less_beside_the_first(self):
        rows = [(LESS, EIGHT, NEVER), (LESS, EIGHT + [0], NEVER), (LESS, EIGHT + [0, 0], MAYBE), (LESS, [], NEVER)]
        rows += [(LESS, EIGHT + [1], MAYBE), (LESS, EIGHT + [255] * 4, MAYBE), (LESS, ABOVE, ALWAYS)]
        self.check(kind_t(12), texts(EIGHT + [7]), rows)
        self.check(kind_t(12), texts(EIGHT + [7], EIGHT + [9]), rows)
        self.check(kind_t(12), texts(EIGHT + [7], EIGHT + [9], EIGHT + [8]), rows)

    def test_greater_beside_the_last(self):
        rows = [(GREATER, ABOVE, NEVER), (GREATER, EIGHT + [255] * 4, NEVER), (GREATER, EIGHT + [255] * 3, MAYBE)]
        rows += [(GREATER, EIGHT + [0], MAYBE), (GREATER, EIGHT, ALWAYS), (GREATER, [], ALWAYS)]
        self.check(kind_t(12), texts(EIGHT + [7]), rows)
        self.check(kind_t(12), texts(EIGHT + [7], EIGHT + [9]), rows)
        self.check(kind_t(12), texts(EIGHT + [7], EIGHT + [9], EIGHT + [8]), rows)

    def test_open(self):
        for size in (9, 12, 999):
            last = [255] * size
            rows = [(GREATER, last, NEVER), (GREATER, last[:-1], MAYBE if size > 9 else ALWAYS), (LESS, last, MAYBE)]
            rows += [(SAME, last, MAYBE), (SAME, FULL, NEVER), (BEGINS, FULL, ALWAYS), (BEGINS, last, MAYBE)]
            self.check(kind_t(size), texts(FULL + [1]), rows)

    def test_exact(self):
        calls = texts(text("b"), text("d"), text("d"))
        rows = [(LESS, text("b"), NEVER), (LESS, text("b") + [0], MAYBE), (LESS, text("d"), MAYBE)]
        rows += [(LESS, text("d") + [0], ALWAYS), (GREATER, text("d"), NEVER), (GREATER, text("c") + FULL, MAYBE)]
        rows += [(GREATER, text("b"), MAYBE), (GREATER, text("a") + FULL, ALWAYS), (GREATER, [], ALWAYS)]
        self.check(kind_t(9), calls, rows)

    def test_the_same(self):
        one = texts(EIGHT + [7])
        self.check(kind_t(9), one, [(SAME, EIGHT, NEVER), (SAME, EIGHT + [0], MAYBE), (SAME, EIGHT + [255], MAYBE)])
        two = texts(EIGHT, EIGHT + [7])
        self.check(kind_t(9), two, [(SAME, EIGHT, MAYBE), (SAME, EIGHT + [3], MAYBE), (SAME, ABOVE, NEVER)])
        three = texts(EIGHT, ABOVE, ABOVE)
        self.check(kind_t(9), three, [(SAME, EIGHT + [3], MAYBE), (SAME, ABOVE + [0], NEVER)])
        self.check(kind_t(9), texts(EIGHT, EIGHT, EIGHT), [(SAME, EIGHT, ALWAYS)])

    def test_any(self):
        for rows in ([[]], [EIGHT + [7]], [[], FULL + [7]], [EIGHT, EIGHT + [1], FULL + [1]]):
            self.check(kind_t(9), texts(*rows), [(ANY, [], ALWAYS)])


class BeginsTest(JudgeCase):
    def check_begins(self, size, rows, wanted):
        self.check(kind_t(size), texts(*rows), [(BEGINS, literal, told) for literal, told in wanted])

    def test_the_empty_literal(self):
        for rows in ([[]], [EIGHT + [7]], [[], FULL + [7]], [EIGHT, EIGHT + [1], FULL + [1]]):
            self.check_begins(9, rows, [([], ALWAYS)])

    def test_one_exact(self):
        wanted = [(text("a"), ALWAYS), (text("abc"), ALWAYS), (text("abcd"), NEVER), (text("abd"), NEVER)]
        self.check_begins(12, [text("abc")], wanted + [(text("b"), NEVER), (EIGHT + [0], NEVER)])
        self.check_begins(12, [[]], [([0], NEVER), (EIGHT, NEVER)])

    def test_one_cut(self):
        wanted = [(text("abcd"), ALWAYS), (EIGHT, ALWAYS), (EIGHT + [0], MAYBE), (EIGHT + [255] * 4, MAYBE)]
        wanted += [(EIGHT + [7], MAYBE), (ABOVE, NEVER), (ABOVE + [0], NEVER), (text("abd"), NEVER)]
        self.check_begins(12, [EIGHT + [7]], wanted)

    def test_two_exact(self):
        wanted = [(text("a"), ALWAYS), (text("ab"), MAYBE), (text("abc"), MAYBE), (text("ac"), MAYBE)]
        wanted += [(text("acb"), NEVER), (text("abcd"), NEVER), (text("abd"), NEVER), (text("b"), NEVER)]
        self.check_begins(12, [text("abc"), text("ac")], wanted)

    def test_two_cut_and_raised(self):
        wanted = [(text("abcdefg"), ALWAYS), (EIGHT, MAYBE), (EIGHT + [255] * 4, MAYBE), (text("abcdefgj"), MAYBE)]
        wanted += [(text("abcdefgj") + [0], MAYBE), (text("abcdefgj") + [255] * 4, MAYBE)]
        wanted += [(ABOVE, NEVER), (ABOVE + [0], NEVER), (text("abcdefgk"), NEVER), (text("abcdefgg"), NEVER)]
        self.check_begins(12, [EIGHT + [7], text("abcdefgj") + [7]], wanted)

    def test_two_raised_with_fewer_bytes(self):
        stem = [122] + [255] * 7
        wanted = [([122], MAYBE), ([122, 255], MAYBE), (stem, MAYBE), (stem + [0], MAYBE), (stem + [255] * 4, MAYBE)]
        wanted += [([123], NEVER), ([122, 254], NEVER), (stem[:7] + [254, 255], NEVER), (text("abcd"), NEVER)]
        self.check_begins(12, [text("abc"), stem + [3]], wanted)

    def test_two_open(self):
        wanted = [([255], MAYBE), (FULL, MAYBE), (FULL + [0], MAYBE), (FULL + [255], MAYBE), ([254], NEVER)]
        self.check_begins(9, [text("abc"), FULL + [3]], wanted)

    def test_three_exact(self):
        wanted = [(text("a"), ALWAYS), (text("ab"), MAYBE), (text("abc"), MAYBE), (text("abcd"), MAYBE)]
        wanted += [(text("abd"), MAYBE), (text("abz") + FULL, MAYBE), (text("ac"), MAYBE), (text("ac") + [0], NEVER)]
        wanted += [(text("abb"), NEVER), (text("ad"), NEVER), (text("b"), NEVER)]
        self.check_begins(12, [text("abc"), text("ac"), text("ac")], wanted)

    def test_three_cut_and_raised(self):
        top = text("abcdefgj")
        wanted = [(EIGHT[:7], ALWAYS), (EIGHT, MAYBE), (EIGHT + [0], MAYBE), (EIGHT + [255] * 4, MAYBE)]
        wanted += [(ABOVE, MAYBE), (ABOVE + [0], MAYBE), (top, MAYBE), (top + [255] * 4, MAYBE)]
        wanted += [(text("abcdefgk"), NEVER), (text("abcdefgg"), NEVER), (text("abcdefgg") + [255] * 4, NEVER)]
        self.check_begins(12, [EIGHT + [7], ABOVE, top + [7]], wanted)

    def test_three_of_one_beginning(self):
        wanted = [(EIGHT, ALWAYS), (EIGHT[:3], ALWAYS), (EIGHT + [5], MAYBE), (ABOVE, NEVER)]
        self.check_begins(12, [EIGHT + [7], EIGHT + [8], EIGHT + [9]], wanted)
        self.check_begins(12, [EIGHT, EIGHT + [8], EIGHT + [9]], wanted)


class RefusalTest(unittest.TestCase):
    def refused(self, chosen, atom, literal):
        for calls in ([], [gaps(2)], [add(1, 1, [1])], [add(3, 1, [1])]):
            self.assertEqual(last_on(chosen, *calls, judge(atom, literal)), [-4], (chosen, atom, literal))

    def test_no_such_atom(self):
        for atom in (-1, 5, BIG, -BIG):
            for chosen in (B, kind_i(8), kind_t(9)):
                self.refused(chosen, atom, [1])
                self.refused(chosen, atom, [])

    def test_begins_is_of_texts_alone(self):
        for chosen in (B, kind_i(2), kind_i(64)):
            self.refused(chosen, BEGINS, [1])
            self.refused(chosen, BEGINS, [])

    def test_any_has_no_literal(self):
        for chosen in (B, kind_i(8), kind_t(9)):
            self.refused(chosen, ANY, [1])
            self.refused(chosen, ANY, [0, 0])
            self.refused(chosen, ANY, [1] * 1100)

    def test_no_value_of_the_kind(self):
        for atom in (LESS, GREATER, SAME):
            for literal in ([], [2], [-1], [0, 0], [HUGE], [-HUGE]):
                self.refused(B, atom, literal)
            for literal in ([], [128], [-129], [0, 0], [HUGE], [-HUGE]):
                self.refused(kind_i(8), atom, literal)
        for atom in (LESS, GREATER, SAME, BEGINS):
            for literal in ([0] * 10, [256], [-1], [0, 0, 256], [HUGE], [-HUGE], [1] * 1100):
                self.refused(kind_t(9), atom, literal)

    def test_nothing_is_changed(self):
        held = [add(2, 1, EIGHT + [7]), gaps(1), parts(), write()]
        asked = [judge(LESS, ABOVE), judge(BEGINS, EIGHT), judge(7, []), judge(SAME, [256])]
        out = run_on(kind_t(9), *held, *asked, parts(), write())
        self.assertEqual(out[4:8], [[2], [2], [-4], [-4]])
        self.assertEqual(out[8:], out[2:4])
