"""Promise 2."""

import unittest

from formkeepdesk.forms import fm_det
from tests import samples


class Determinant(unittest.TestCase):
    def test_known_determinants_in_each_size(self):
        seen = {}
        for n, a, determinant in samples.good_forms():
            with self.subTest(n=n, a=a):
                self.assertEqual(fm_det(n, a), [0, determinant])
            seen[n] = True
        self.assertEqual(sorted(seen), list(samples.SIZES))

    def test_agrees_with_expansion_along_the_rows(self):
        for n in samples.SIZES:
            numbers = samples.Numbers(200 + n)
            for attempt in range(20):
                a = strong_form(n, numbers)
                with self.subTest(n=n, a=a):
                    self.assertEqual(fm_det(n, a), [0, samples.slow_det(n, a)])

    def test_greatest_determinant(self):
        self.assertEqual(fm_det(8, samples.diagonal([32] * 8)), [0, 1099511627776])

    def test_every_form_of_two_rows_of_small_numbers(self):
        for a in samples.mirrored_lists(2, range(-4, 5)):
            good = samples.is_above_zero_in_box(2, a, 4)
            self.assertEqual(fm_det(2, a), [0, samples.slow_det(2, a)] if good else [-1], a)


class Edges(unittest.TestCase):
    def test_numbers_at_the_bounds(self):
        for number, wanted in ((-33, [-1]), (-32, [-1]), (0, [-1]), (1, [0, 1]), (32, [0, 32]), (33, [-1])):
            for n in samples.SIZES:
                for i in range(n):
                    a = samples.with_pair(n, samples.diagonal([1] * n), i, i, number)
                    self.assertEqual(fm_det(n, a), wanted, (n, i, number))

    def test_sizes_at_the_edges(self):
        self.assertEqual(fm_det(0, []), [-2])
        self.assertEqual(fm_det(1, [7]), [0, 7])
        self.assertEqual(fm_det(8, samples.chain(8)), [0, 9])
        self.assertEqual(fm_det(9, []), [-2])


def strong_form(n, numbers):
    """A form because each own number outweighs the rest of its row."""
    most = 4 if n > 1 else 0
    a = [0] * (n * n)
    for i in range(n):
        a[i * n + i] = numbers.draw(29, 32)
        for j in range(i):
            a[i * n + j] = a[j * n + i] = numbers.draw(-most, most)
    return a
