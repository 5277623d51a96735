"""Promise 5 of fm_first."""

import unittest

from formkeepdesk.forms import fm_first, fm_good, fm_same
from tests import samples, slow_changes, slow_ways

FEW_SIZES = (1, 2, 3, 4)
MOST_LINES = 44


class First(unittest.TestCase):
    def check_search(self, n, a, lines):
        answer = fm_first(n, a)
        with self.subTest(n=n, a=a):
            self.assertEqual(answer[0], 0)
            self.assertEqual(slow_changes.in_order(n, answer[1:]), slow_changes.first_in_order(n, a, lines))
            self.assertEqual(fm_good(n, answer[1:]), [1])
            self.assertTrue(slow_changes.changes_between(n, a, answer[1:]))

    def test_against_a_search_in_each_size(self):
        tried = {}
        for n in FEW_SIZES:
            for a in slow_changes.ordinary_forms(n):
                most = max(a[i * n + i] for i in range(n))
                if slow_ways.is_small(n, a, most):
                    lines = slow_changes.all_lines(n, a, most)
                    if len(lines) <= MOST_LINES:
                        self.check_search(n, a, lines)
                        tried[n] = tried.get(n, 0) + 1
            self.assertGreaterEqual(tried[n], 10, n)

    def test_every_small_form_of_two_rows_against_all_lines_in_bounds(self):
        for a in samples.mirrored_lists(2, (-4, -3, -1, 0, 2, 3, 5, 7)):
            if fm_good(2, a) == [1]:
                self.check_search(2, a, slow_changes.all_lines(2, a, 32))

    def test_every_small_form_of_three_rows(self):
        for a in samples.mirrored_lists(3, (-1, 0, 1, 2)):
            if fm_good(3, a) == [1]:
                self.check_search(3, a, slow_changes.all_lines(3, a, 3))

    def test_drawn_forms_of_four_rows(self):
        numbers = samples.Numbers(23)
        tried = 0
        for attempt in range(300):
            a = samples.diagonal([numbers.draw(3, 6) for i in range(4)])
            for i in range(4):
                for j in range(i):
                    a = samples.with_pair(4, a, i, j, numbers.draw(-2, 2))
            if fm_good(4, a) == [1] and tried < 40:
                lines = slow_changes.all_lines(4, a, max(a))
                if len(lines) <= 30:
                    self.check_search(4, a, lines)
                    tried += 1
        self.assertEqual(tried, 40)

    def test_the_one_in_its_own_column_first_then_back(self):
        self.assertEqual(fm_first(2, [2, 1, 1, 2]), [0, 2, -1, -1, 2])
        self.assertEqual(fm_first(2, [7, 0, 0, 3]), [0, 3, 0, 0, 7])
        # -1 in the column just ahead of its own comes before -1 in the first column.
        self.assertEqual(fm_first(3, [2, 1, 1, 1, 2, 1, 1, 1, 2]), [0, 2, -1, 0, -1, 2, -1, 0, -1, 2])
        self.assertEqual(
            fm_first(4, samples.fork(4)),
            [0, 2, -1, 0, 1, -1, 2, -1, 0, 0, -1, 2, -1, 1, 0, -1, 2],
        )

    def test_numbers_off_the_diagonal_below_and_above_zero(self):
        self.assertEqual(fm_first(2, [3, 1, 1, 5]), [0, 3, -1, -1, 5])
        self.assertEqual(fm_first(2, [3, -1, -1, 5]), [0, 3, -1, -1, 5])
        # Of three rows with all products above 0 no change of signs leaves but numbers below 0.
        self.assertEqual(fm_first(3, [5, 1, 1, 1, 5, 1, 1, 1, 5]), [0, 5, -1, 1, -1, 5, -1, 1, -1, 5])
        self.assertEqual(fm_first(3, [5, -1, -1, -1, 5, -1, -1, -1, 5]), [0, 5, -1, -1, -1, 5, -1, -1, -1, 5])

    def test_one_unknown(self):
        for number in range(1, 33):
            self.assertEqual(fm_first(1, [number]), [0, number])

    def test_great_numbers(self):
        self.assertEqual(fm_first(2, [1, 5, 5, 26]), [0, 1, 0, 0, 1])
        self.assertEqual(fm_first(2, [32, 31, 31, 32]), [0, 2, -1, -1, 32])
        self.assertEqual(fm_first(2, [32, -31, -31, 32]), [0, 2, -1, -1, 32])
        a = [1, -2, -2, -2, -2, 5, 2, 2, -2, 2, 9, 6, -2, 2, 6, 13]
        self.assertEqual(fm_first(4, a), [0] + samples.diagonal([1] * 4))
        self.assertEqual(fm_first(4, samples.diagonal([32] * 4)), [0] + samples.diagonal([32] * 4))
        self.assertEqual(fm_first(4, samples.diagonal([32, 31, 1, 5])), [0] + samples.diagonal([1, 5, 31, 32]))

    def test_forms_that_are_the_same_have_one_answer(self):
        for n in FEW_SIZES:
            for a in slow_changes.ordinary_forms(n):
                answer = fm_first(n, a)
                if max(a) <= 16:
                    for b, c in slow_changes.changed_in_bounds(n, a, 500 + n, 4):
                        self.assertEqual(fm_first(n, b), answer, (a, b))

    def test_the_answer_is_its_own_answer(self):
        for n in FEW_SIZES:
            for a in slow_changes.ordinary_forms(n):
                answer = fm_first(n, a)
                self.assertEqual(fm_first(n, answer[1:]), answer)
                self.assertEqual(fm_same(n, a, answer[1:]), [1])
                self.assertLessEqual(slow_changes.in_order(n, answer[1:]), slow_changes.in_order(n, a))

    def test_forms_that_are_not_the_same_have_two_answers(self):
        for n, a, b in slow_changes.UNLIKE_PAIRS:
            self.assertNotEqual(fm_first(n, a), fm_first(n, b))


class Edges(unittest.TestCase):
    def test_sizes(self):
        for n in (0, 9, samples.LEAST_INT, samples.GREATEST_INT):
            self.assertEqual(fm_first(n, []), [-2])
        for n in (5, 8):
            self.assertEqual(fm_first(n, samples.chain(n)), [-2])
            self.assertEqual(fm_first(n, [0] * (n * n)), [-2])
        for n in (1, 4):
            self.assertEqual(fm_first(n, [0] * (n * n)), [-1])
