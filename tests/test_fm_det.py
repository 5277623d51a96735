"""Promise 2, and the refusals -2 and -1 of fm_det."""

import unittest

from formkeepdesk.forms import fm_det
from tests import samples


class Determinant(unittest.TestCase):
    def test_known_determinants_in_each_size(self):
        seen = {}
        for n, a, determinant in samples.good_forms():
            with self.subTest(n=n, a=a):
                self.assertEqual(fm_det(n, a), [0, determinant])
            seen[n] = True
        self.assertEqual(sorted(seen), list(samples.SIZES))

    def test_agrees_with_expansion_along_the_rows(self):
        for n in samples.SIZES:
            numbers = samples.Numbers(200 + n)
            for attempt in range(20):
                a = strong_form(n, numbers)
                with self.subTest(n=n, a=a):
                    self.assertEqual(fm_det(n, a), [0, samples.slow_det(n, a)])

    def test_greatest_determinant(self):
        self.assertEqual(fm_det(8, samples.diagonal([32] * 8)), [0, 1099511627776])

    def test_every_form_of_two_rows_of_small_numbers(self):
        for a in samples.mirrored_lists(2, range(-4, 5)):
            good = samples.is_above_zero_in_box(2, a, 4)
            self.assertEqual(fm_det(2, a), [0, samples.slow_det(2, a)] if good else [-1], a)


class Refused(unittest.TestCase):
    def check_no_form(self, lists):
        for n, a in lists:
            with self.subTest(n=n, a=a):
                self.assertEqual(fm_det(n, a), [-1])

    def test_numbers_out_of_bounds(self):
        self.check_no_form(samples.not_in_bounds())

    def test_not_the_same_on_both_sides(self):
        self.check_no_form(samples.not_mirrored())

    def test_value_not_above_zero(self):
        self.check_no_form(samples.not_above_zero())

    def test_numbers_at_the_bounds(self):
        for number, wanted in ((-33, [-1]), (-32, [-1]), (0, [-1]), (1, [0, 1]), (32, [0, 32]), (33, [-1])):
            for n in samples.SIZES:
                for i in range(n):
                    a = samples.with_pair(n, samples.diagonal([1] * n), i, i, number)
                    self.assertEqual(fm_det(n, a), wanted, (n, i, number))

    def test_wrong_sizes_go_ahead_of_no_form(self):
        # No list of no numbers is a form, so -1 would be answered were it looked for first.
        for n in samples.WRONG_SIZES:
            with self.subTest(n=n):
                self.assertEqual(fm_det(n, []), [-2])

    def test_sizes_at_the_edges(self):
        self.assertEqual(fm_det(0, []), [-2])
        self.assertEqual(fm_det(1, [7]), [0, 7])
        self.assertEqual(fm_det(8, samples.chain(8)), [0, 9])
        self.assertEqual(fm_det(9, []), [-2])


def strong_form(n, numbers):
    """A form because each own number outweighs the rest of its row."""
    most = 4 if n > 1 else 0
    a = [0] * (n * n)
    for i in range(n):
        a[i * n + i] = numbers.draw(29, 32)
        for j in range(i):
            a[i * n + j] = a[j * n + i] = numbers.draw(-most, most)
    return a
