"""How calls stand in the one list, and how answers stand in the list that is given back."""

import unittest

from columnbounds.column import answers
from tests.support import add, fault, gaps, kind, parts, read, run, value, write


class InterfaceTest(unittest.TestCase):
    def test_each_answer_stands_behind_its_count(self):
        calls = kind(1, 8) + value(5) + gaps(2) + parts() + write() + read([9]) + fault([9]) + fault([0, 0])
        wanted = [1, 0, 1, 1, 1, 3, 6, 3, 2, 0, 5, 0, 5, 5, 4, 3, 2, 10, 0, 1, -21, 2, 1, 1, 1, 0]
        self.assertEqual(answers(calls), wanted)

    def test_a_refusal_stands_alone(self):
        self.assertEqual(answers([2]), [1, -2])
        self.assertEqual(answers([0, 7, 7, 3]), [1, -1, 1, -2])

    def test_rows_of_refused_calls_are_passed_over(self):
        out = run(add(1, 1, [2, 3, 4]), read([0] * 1000), kind(2, 2), add(1, 1, [0] * 1100), value(1), parts())
        self.assertEqual(out, [[-2], [-2], [0], [-4], [1], [1, 0, 0, 1, 1, 0, 1, 1]])

    def test_the_list_handed_in_stays(self):
        calls = kind(2, 12) + add(2, 1, list(range(97, 107))) + write() + read([1, 0, 0, 1, 5, 1, 5]) + parts()
        before = list(calls)
        answers(calls)
        self.assertEqual(calls, before)

    def test_nothing_is_kept_from_one_time_to_the_next(self):
        calls = kind(1, 8) + value(5) + parts()
        once = answers(calls)
        once.append(7)
        self.assertEqual(answers(parts()), [1, -2])
        self.assertEqual(answers(calls), [1, 0, 1, 1, 6, 1, 0, 0, 5, 0, 5])

    def test_what_is_held_does_not_hang_on_an_answer(self):
        out = run(kind(2, 3), value(1, 2), parts(), write(), value(3), parts())
        self.assertEqual(out[2], [1, 0, 0, 2, 1, 2, 0, 2, 1, 2])
        self.assertEqual(out[5], [2, 0, 0, 2, 1, 2, 0, 1, 3])

    def test_four_hundred_calls(self):
        out = run(kind(1, 16), *[value(k) for k in range(398)], parts())
        self.assertEqual(out[-1], [398, 0, 0, 0, 0, 397])
        self.assertEqual([one[0] for one in out[1:-1]], list(range(1, 399)))
