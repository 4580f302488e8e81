"""The first, the last, the stem, and what may be the least, the greatest and among, straight at their functions."""

import unittest

from columnbounds.bounds import CUT, EXACT, OPEN, RAISED, Bound, Bounds
from columnbounds.kinds import Kind
from columnbounds.possible import first_value, last_value, may_be_among, may_be_greatest, may_be_least, stem
from columnbounds.stats import Statistics
from tests.support import text

EIGHT = text("abcdefgh")
ABOVE = text("abcdefgi")


def texts(lower_mark, lower, upper_mark, upper):
    return Bounds(Bound(lower_mark, lower), Bound(upper_mark, upper))


class PossibleTest(unittest.TestCase):
    def test_the_first(self):
        self.assertEqual(first_value(texts(EXACT, EIGHT, RAISED, ABOVE)), EIGHT)
        self.assertEqual(first_value(texts(CUT, EIGHT, RAISED, ABOVE)), EIGHT + [0])

    def test_the_last(self):
        kind = Kind(2, 12)
        self.assertEqual(last_value(kind, texts(EXACT, EIGHT, EXACT, ABOVE)), ABOVE)
        self.assertEqual(last_value(kind, texts(EXACT, EIGHT, RAISED, ABOVE)), EIGHT + [255] * 4)
        self.assertEqual(last_value(kind, texts(EXACT, EIGHT, RAISED, [98])), [97] + [255] * 11)
        self.assertEqual(last_value(kind, texts(EXACT, EIGHT, OPEN, [])), [255] * 12)

    def test_the_stem(self):
        kind = Kind(2, 12)
        self.assertEqual(stem(kind, texts(EXACT, [], RAISED, ABOVE)), EIGHT)
        self.assertEqual(stem(kind, texts(EXACT, [], RAISED, [1])), [0] + [255] * 7)
        self.assertEqual(stem(kind, texts(EXACT, [], OPEN, [])), [255] * 8)

    def test_what_may_be_the_greatest(self):
        kind = Kind(2, 12)
        exact = texts(EXACT, [], EXACT, ABOVE)
        raised = texts(EXACT, [], RAISED, ABOVE)
        self.assertTrue(may_be_greatest(kind, exact, ABOVE))
        self.assertFalse(may_be_greatest(kind, exact, ABOVE + [0]))
        self.assertTrue(may_be_greatest(kind, raised, EIGHT + [0]))
        self.assertFalse(may_be_greatest(kind, raised, EIGHT))
        self.assertFalse(may_be_greatest(kind, raised, ABOVE + [0]))
        self.assertTrue(may_be_greatest(kind, texts(EXACT, [], OPEN, []), [255] * 9))

    def test_what_may_be_the_least(self):
        exact = texts(EXACT, EIGHT, OPEN, [])
        cut = texts(CUT, EIGHT, OPEN, [])
        self.assertTrue(may_be_least(exact, EIGHT))
        self.assertFalse(may_be_least(exact, EIGHT + [0]))
        self.assertTrue(may_be_least(cut, EIGHT + [0]))
        self.assertTrue(may_be_least(cut, EIGHT + [255] * 4))
        self.assertFalse(may_be_least(cut, EIGHT))
        self.assertFalse(may_be_least(cut, ABOVE + [0]))

    def test_what_may_be_among(self):
        kind = Kind(2, 12)
        bounds = texts(EXACT, EIGHT, RAISED, ABOVE)
        middle = EIGHT + [5]
        for many, wanted in [(2, [True, True, False]), (3, [True, True, False]), (9, [True, True, False])]:
            for gaps in (0, 4):
                held = Statistics(many + gaps, gaps, bounds)
                told = [may_be_among(kind, held, value) for value in (EIGHT, middle, ABOVE)]
                self.assertEqual(told, wanted)
        self.assertFalse(may_be_among(kind, Statistics(4, 4, None), EIGHT))
