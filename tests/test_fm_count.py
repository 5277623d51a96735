"""Promise 3 of fm_count."""

import unittest

from formkeepdesk.forms import fm_count
from tests import samples, slow_ways


class Counted(unittest.TestCase):
    def test_squares_summed_at_values_up_to_the_greatest(self):
        for own in ([1], [1, 1], [1, 2, 5], [1, 1, 1, 1], [1, 2, 3, 4, 5], [1] * 6, [3] * 7, [1] * 8, [2, 3] * 4):
            wanted = slow_ways.counts_of_diagonal(own, 64)
            for m in (0, 1, 2, 7, 30, 33, 63, 64):
                with self.subTest(own=own, m=m):
                    self.assertEqual(fm_count(len(own), m, samples.diagonal(own)), [0, wanted[m]])

    def test_every_value_of_some_forms(self):
        for own in ([7], [1, 32], [5, 6, 7], [1, 1, 1, 1]):
            wanted = slow_ways.counts_of_diagonal(own, 64)
            for m in range(65):
                self.assertEqual(fm_count(len(own), m, samples.diagonal(own)), [0, wanted[m]], (own, m))

    def test_changed_forms_have_as_many_ways(self):
        for n in samples.SIZES:
            own = [i % 3 + 1 for i in range(n)]
            wanted = slow_ways.counts_of_diagonal(own, 64)
            for n_again, a, determinant in samples.drawn_good(n)[:6]:
                for m in (1, 2, 6, 17, 64):
                    with self.subTest(n=n, m=m, a=a):
                        self.assertEqual(fm_count(n, m, a), [0, wanted[m]])

    def test_great_unknowns_at_small_values(self):
        for n in samples.SIZES:
            wanted = slow_ways.counts_of_diagonal([1] * n, 64)
            for number in (-2, -1, 1, 2):
                a = samples.changed(n, samples.diagonal([1] * n), slow_ways.steep_change(n, number))
                for m in (0, 1, 2, 3, 10, 64):
                    with self.subTest(n=n, m=m, number=number):
                        self.assertEqual(fm_count(n, m, a), [0, wanted[m]])

    def test_known_root_forms(self):
        self.assertEqual(fm_count(2, 2, samples.chain(2)), [0, 6])
        self.assertEqual(fm_count(4, 2, samples.fork(4)), [0, 24])
        self.assertEqual(fm_count(6, 2, samples.exceptional(6)), [0, 72])
        self.assertEqual(fm_count(7, 2, samples.exceptional(7)), [0, 126])
        for half in (1, 2, 3, 4, 6, 32):
            # Of this form 2 k is a value in 240 times as many ways as the cubes of k's divisors come to.
            cubes = sum(d ** 3 for d in range(1, half + 1) if half % d == 0)
            self.assertEqual(fm_count(8, 2 * half, samples.exceptional(8)), [0, 240 * cubes])

    def test_no_way_is_no_refusal(self):
        self.assertEqual(fm_count(1, 2, [1]), [0, 0])
        self.assertEqual(fm_count(1, 31, [32]), [0, 0])
        self.assertEqual(fm_count(3, 7, samples.diagonal([1] * 3)), [0, 0])
        for n in range(1, 9):
            self.assertEqual(fm_count(n, 1, samples.chain(n)), [0, 0])
            self.assertEqual(fm_count(n, 31, samples.diagonal([32] * n)), [0, 0])
            self.assertEqual(fm_count(n, 63, samples.diagonal([32] * n)), [0, 0])
        self.assertEqual(fm_count(8, 63, samples.exceptional(8)), [0, 0])


class Edges(unittest.TestCase):
    def test_sizes_and_values(self):
        self.assertEqual(fm_count(0, 1, []), [-2])
        self.assertEqual(fm_count(9, 1, []), [-2])
        for n in (1, 8):
            own = samples.diagonal([1] * n)
            wanted = slow_ways.counts_of_diagonal([1] * n, 64)
            for m in (-1, 65):
                self.assertEqual(fm_count(n, m, own), [-2])
            for m in (0, 1, 64):
                self.assertEqual(fm_count(n, m, own), [0, wanted[m]])
