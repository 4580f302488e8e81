"""How calls stand in the one list, and how answers stand in the list that is given back."""

import unittest

from columnbounds.column import answers
from tests.support import (
    add, between, example, fault, gaps, items, judge, kind, kind_i, kind_t, may, merge, parts, read, run, run_on, value,
    write,
)


class InterfaceTest(unittest.TestCase):
    def test_each_answer_stands_behind_its_count(self):
        calls = kind(1, 8) + value(5) + gaps(2) + parts() + write() + read([9]) + fault([9]) + fault([0, 0])
        wanted = [1, 0, 1, 1, 1, 3, 6, 3, 2, 0, 5, 0, 5, 5, 4, 3, 2, 10, 0, 1, -21, 2, 1, 1, 1, 0]
        self.assertEqual(answers(calls), wanted)

    def test_a_refusal_stands_alone(self):
        self.assertEqual(answers([2]), [1, -2])
        self.assertEqual(answers([0, 7, 7, 3]), [1, -1, 1, -2])

    def test_rows_of_refused_calls_are_passed_over(self):
        out = run(add(1, 1, [2, 3, 4]), read([0] * 1000), kind(2, 2), add(1, 1, [0] * 1100), value(1), parts())
        self.assertEqual(out, [[-2], [-2], [0], [-4], [1], [1, 0, 0, 1, 1, 0, 1, 1]])

    def test_the_list_handed_in_stays(self):
        calls = kind(2, 12) + add(2, 1, list(range(97, 107))) + write() + read([1, 0, 0, 1, 5, 1, 5]) + parts()
        before = list(calls)
        answers(calls)
        self.assertEqual(calls, before)

    def test_nothing_is_kept_from_one_time_to_the_next(self):
        calls = kind(1, 8) + value(5) + parts()
        once = answers(calls)
        once.append(7)
        self.assertEqual(answers(parts()), [1, -2])
        self.assertEqual(answers(calls), [1, 0, 1, 1, 6, 1, 0, 0, 5, 0, 5])

    def test_what_is_held_does_not_hang_on_an_answer(self):
        out = run(kind(2, 3), value(1, 2), parts(), write(), value(3), parts())
        self.assertEqual(out[2], [1, 0, 0, 2, 1, 2, 0, 2, 1, 2])
        self.assertEqual(out[5], [2, 0, 0, 2, 1, 2, 0, 1, 3])

    def test_four_hundred_calls(self):
        out = run(kind(1, 16), *[value(k) for k in range(398)], parts())
        self.assertEqual(out[-1], [398, 0, 0, 0, 0, 397])
        self.assertEqual([one[0] for one in out[1:-1]], list(range(1, 399)))

    def test_the_calls_stand_as_the_document_tells(self):
        calls = [
            0, 1, 8,
            1, 2, 1, 1, 5,
            1, 1, 0, 0,
            6, 4, 1, 0, 18, 0,
            7,
            8, 1, 7,
            9, 2, 1, 7,
            9, 4, 0,
            10,
            11, 2, 1, 1, 7,
            11, 4, 0, 0,
        ]
        before = list(calls)
        plain = [4, 1, 5, 1, 5, 1, 9, 0]
        told = [1, 0, 1, 2, 1, 3, 1, 4, 3, 0, 5, 9, 1, 1, 1, 2, 1, 2]
        told += [8] + plain + [8, 4, 1, 5, 1, 7, 1, 9, 0] + [8] + plain
        self.assertEqual(answers(calls), told)
        self.assertEqual(calls, before)

    def test_texts_stand_behind_their_counts(self):
        calls = [0, 2, 3, 1, 1, 1, 2, 7, 8, 1, 1, 1, 0, 7, 9, 3, 1, 7, 11, 3, 1, 1, 7]
        told = [1, 0, 1, 1, 1, 2, 5, 0, 0, 2, 7, 8, 1, 2, 7, 2, 1, 0, 1, 2, 7, 8]
        self.assertEqual(answers(calls), told)

    def test_rows_of_refused_questions_are_passed_over(self):
        long = [1] * 1100
        out = run(may(long), judge(2, long), example(2, 1, long), merge([0] * 1000), kind(1, 8), items())
        self.assertEqual(out, [[-2], [-2], [-2], [-2], [0], [0]])
        out = run(kind(0, 0), may([2]), judge(9, [3] * 9), example(2, 7, [1]), merge([9] * 9), items())
        self.assertEqual(out, [[0], [-4], [-4], [-3], [-30], [0]])

    def test_questions_change_nothing(self):
        asked = [between(), may([5]), judge(0, [6]), items(), example(2, 1, [5]), fault([1, 0, 0, 0]), parts(), write()]
        out = run_on(kind_i(8), value(5), value(9), gaps(1), *asked, *asked[::-1])
        self.assertEqual(out[3:11], out[11:][::-1])

    def test_no_answer_hangs_on_another(self):
        handed = kind(2, 9) + add(3, 1, [97] * 9) + items() + between() + items()
        once = answers(handed)
        again = list(once)
        for place in range(len(once)):
            once[place] = -7
        self.assertEqual(answers(handed), again)

    def test_nothing_is_kept_by_questions(self):
        answers(kind(1, 8) + value(5) + merge([1, 0, 0, 0]) + items())
        for call in (between(), may([5]), judge(4, []), items(), example(4, 1, []), merge([0, 0])):
            self.assertEqual(answers(call), [1, -2])

    def test_four_hundred_calls_of_every_sort(self):
        turn = [value(5), merge([2, 1, 0, 0]), between(), may([3]), judge(2, [3]), items(), example(2, 1, [3])]
        out = run(kind(1, 8), *(turn * 57)[:399])
        self.assertEqual(len(out), 400)
        for step in range(57):
            some = out[1 + 7 * step:8 + 7 * step]
            count = 3 * step + 3
            self.assertEqual(some[:2], [[count - 2], [count]])
            self.assertEqual(some[2], [0, 0, 5])
            self.assertEqual(some[3:5], [[0], [0]] if step == 0 else [[1], [2]])
            values = 2 * step + 2
            plain = [count] + [1, 0, 1, 0] + [1, 5] * (values - 2) + [0] * (step + 1)
            shown = [count] + [1, 0, 1, 3] + [1, 5] * (values - 2) + [0] * (step + 1)
            if step == 0:
                plain, shown = [3, 1, 0, 1, 5, 0], [-9]
            self.assertEqual(some[5:], [[-8], [-8]] if count > 100 else [plain, shown])

    def test_ten_million_numbers(self):
        last = [255] * 999
        calls = [add(100, 1, last)] + [example(1, 1, [255] * 10)] * 99
        out = run_on(kind_t(999), *calls)
        told = [100, 1, 9] + [255] * 8 + [0] + ([1, 999] + last) * 99
        self.assertEqual(len(told), 1 + 11 + 99 * 1001)
        for one in out[1:]:
            self.assertEqual(one, told)

    def test_a_list_of_15000_numbers(self):
        long = [97] * 999
        calls = [kind(2, 999), add(3, 1, long)] + [judge(3, long), example(2, 1, long), may(long), merge([0, 0])] * 4
        calls += [judge(2, long)]
        self.assertLessEqual(sum(len(call) for call in calls), 15000)
        out = run(*calls)
        first, last = [97] * 8 + [0], [97] * 8 + [255] * 991
        shown = [3, 1, 9] + first + [1, 999] + long + [1, 999] + last
        self.assertEqual(out[2:], [[2], shown, [1], [3]] * 4 + [[2]])
