"""Promise 4."""

import unittest

from formkeepdesk.forms import fm_count, fm_least
from tests import samples, slow_ways


def own_numbers(n, a):
    return [a[i * n + i] for i in range(n)]


def least_in_box(n, a):
    m = 1
    while not slow_ways.ways_in_box(n, a, m):
        m += 1
    return m


class Least(unittest.TestCase):
    def test_against_a_box_in_each_size(self):
        tried = {}
        for n, a, determinant in samples.good_forms():
            # The box for any own number holds a way to it, so it holds the least value's ways as well.
            if slow_ways.is_small(n, a, min(own_numbers(n, a))) and tried.get(n, 0) < 12:
                with self.subTest(n=n, a=a):
                    self.assertEqual(fm_least(n, a), [least_in_box(n, a)])
                tried[n] = tried.get(n, 0) + 1
        for n in samples.SIZES:
            self.assertGreaterEqual(tried.get(n, 0), 8, n)

    def test_every_small_form_of_two_and_three_rows(self):
        for n, numbers in ((2, range(-4, 6)), (3, (-1, 0, 1, 2, 3))):
            for a in samples.mirrored_lists(n, numbers):
                answer = fm_least(n, a)
                if answer != [-1]:
                    self.assertEqual(answer, [least_in_box(n, a)], a)

    def test_own_numbers_alone(self):
        for n in samples.SIZES:
            for least in (1, 2, 15, 31, 32):
                for i in range(n):
                    own = [32] * n
                    own[i] = least
                    self.assertEqual(fm_least(n, samples.diagonal(own)), [least])

    def test_below_every_number_of_the_diagonal(self):
        for n in range(2, 9):
            for beside, least in ((31, 2), (30, 4), (25, 14)):
                a = [32 if i == j else beside for i in range(n) for j in range(n)]
                self.assertEqual(fm_least(n, a), [least], a)
        self.assertEqual(fm_least(2, [5, 3, 3, 2]), [1])
        self.assertEqual(fm_least(2, [32, 30, 30, 29]), [1])

    def test_below_every_number_of_the_diagonal_when_changed(self):
        for n in range(2, 9):
            c = samples.split(n, slow_ways.steep_change(n, 1))
            c[0] = [x + y for x, y in zip(c[0], c[1])]
            for least in (1, 2, 3):
                own = [least] + [least + 1] * (n - 1)
                a = samples.changed(n, samples.diagonal(own), samples.flat(c))
                if max(a) <= 32:
                    self.assertGreater(min(own_numbers(n, a)), least)
                    self.assertEqual(fm_least(n, a), [least], a)

    def test_great_unknowns_at_the_least_value(self):
        for n in samples.SIZES:
            for number in (-2, -1, 1, 2):
                c = slow_ways.steep_change(n, number)
                self.assertEqual(fm_least(n, samples.changed(n, samples.diagonal([1] * n), c)), [1])

    def test_even_forms(self):
        for n in samples.SIZES:
            self.assertEqual(fm_least(n, samples.chain(n)), [2])
            self.assertEqual(fm_least(n, [number * 16 for number in samples.chain(n)]), [32])
        self.assertEqual(fm_least(8, samples.exceptional(8)), [2])
        self.assertEqual(fm_least(8, [number * 16 for number in samples.exceptional(8)]), [32])

    def test_it_is_the_first_value_that_is_counted(self):
        for n, a, determinant in samples.good_forms():
            least = fm_least(n, a)[0]
            self.assertGreater(fm_count(n, least, a)[1], 0)
            for m in range(1, least):
                self.assertEqual(fm_count(n, m, a), [0, 0])
