"""Promise 3: fm_count and fm_way against all unknowns within a box that is surely great enough."""

import unittest

from formkeepdesk.forms import fm_count, fm_good, fm_way
from tests import samples, slow_ways


class Box(unittest.TestCase):
    def check(self, n, a, m):
        ways = slow_ways.ways_in_box(n, a, m)
        self.assertEqual(ways, sorted(ways))
        with self.subTest(n=n, m=m, a=a):
            self.assertEqual(fm_count(n, m, a), [0, len(ways)])
            self.assertEqual(fm_way(n, m, a), slow_ways.first_answer(ways))
        return len(ways)

    def test_forms_in_each_size(self):
        tried = {}
        for n, a, determinant in samples.good_forms():
            for m in (0, 1, 2, 3, 4, 5, 8, 13, 32, 63, 64):
                if slow_ways.is_small(n, a, m) and tried.get((n, m), 0) < 8:
                    if self.check(n, a, m) > 1:
                        tried[n, m] = tried.get((n, m), 0) + 1
        for n in samples.SIZES:
            self.assertGreaterEqual(sum(tried.get((n, m), 0) for m in range(2, 65)), 10, n)

    def test_every_small_form_of_two_and_three_rows(self):
        for n, numbers in ((2, range(-4, 5)), (3, (-1, 0, 1, 2))):
            for a in samples.mirrored_lists(n, numbers):
                if fm_good(n, a) == [1]:
                    for m in (1, 2, 3, 6):
                        self.check(n, a, m)

    def test_great_numbers_off_the_diagonal(self):
        for n in range(2, 9):
            for beside in (31, 30, -31 if n == 2 else 29):
                a = [32 if i == j else beside for i in range(n) for j in range(n)]
                for m in (1, 2, 3, 4, 6):
                    self.check(n, a, m)

    def test_nothing_but_noughts_has_the_value_nought(self):
        for n, a, determinant in samples.good_forms():
            self.assertEqual(fm_count(n, 0, a), [0, 1], a)
            self.assertEqual(fm_way(n, 0, a), [0] * (n + 1), a)
