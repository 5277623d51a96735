"""Promise 1, and the refusal -2 of fm_good."""

import unittest

from formkeepdesk.forms import fm_good
from tests import samples


class Good(unittest.TestCase):
    def test_forms_in_each_size(self):
        seen = {}
        for n, a, determinant in samples.good_forms():
            with self.subTest(n=n, a=a):
                self.assertEqual(fm_good(n, a), [1])
            seen[n] = True
        self.assertEqual(sorted(seen), list(samples.SIZES))

    def test_one_unknown_at_every_number(self):
        for number in range(-40, 41):
            with self.subTest(number=number):
                self.assertEqual(fm_good(1, [number]), [1 if 1 <= number <= 32 else 0])
        for number in (samples.LEAST_INT, samples.GREATEST_INT):
            self.assertEqual(fm_good(1, [number]), [0])

    def test_numbers_at_the_bounds(self):
        for n in samples.SIZES:
            for i in range(n):
                a = samples.diagonal([1] * n)
                with self.subTest(n=n, i=i):
                    self.assertEqual(fm_good(n, samples.with_pair(n, a, i, i, 32)), [1])
                    self.assertEqual(fm_good(n, samples.with_pair(n, a, i, i, 33)), [0])
                    self.assertEqual(fm_good(n, samples.with_pair(n, a, i, i, -32)), [0])
                    self.assertEqual(fm_good(n, samples.with_pair(n, a, i, i, -33)), [0])

    def test_numbers_beside_the_own_column_at_the_bounds(self):
        for n in range(2, 9):
            for i in range(n):
                for j in range(i):
                    a = samples.diagonal([32] * n)
                    for number in (31, -31):
                        self.assertEqual(fm_good(n, samples.with_pair(n, a, i, j, number)), [1])
                    for number in (32, -32, 33, -33):
                        self.assertEqual(fm_good(n, samples.with_pair(n, a, i, j, number)), [0])


class NotGood(unittest.TestCase):
    def check(self, lists):
        for n, a in lists:
            with self.subTest(n=n, a=a):
                self.assertEqual(fm_good(n, a), [0])

    def test_numbers_out_of_bounds(self):
        self.check(samples.not_in_bounds())

    def test_not_the_same_on_both_sides(self):
        self.check(samples.not_mirrored())

    def test_value_not_above_zero(self):
        self.check(samples.not_above_zero())


class AgainstTheWordsOfTheDocument(unittest.TestCase):
    # In each of these boxes a value of 0 or below is met if there is one at all: of two unknowns at
    # (1, 0) or (-b, a), of three at the rest of two unknowns or at the last column of the adjugate.
    def test_every_mirrored_list_of_two_rows(self):
        for a in samples.mirrored_lists(2, range(-4, 5)):
            wanted = 1 if samples.is_above_zero_in_box(2, a, 4) else 0
            self.assertEqual(fm_good(2, a), [wanted], a)

    def test_every_mirrored_list_of_three_rows(self):
        for a in samples.mirrored_lists(3, (-1, 0, 1, 2)):
            wanted = 1 if samples.is_above_zero_in_box(3, a, 8) else 0
            self.assertEqual(fm_good(3, a), [wanted], a)


class Refused(unittest.TestCase):
    def test_wrong_sizes(self):
        for n in samples.WRONG_SIZES:
            with self.subTest(n=n):
                self.assertEqual(fm_good(n, []), [-2])

    def test_sizes_at_the_edges(self):
        self.assertEqual(fm_good(0, []), [-2])
        self.assertEqual(fm_good(1, [1]), [1])
        self.assertEqual(fm_good(8, samples.chain(8)), [1])
        self.assertEqual(fm_good(9, []), [-2])

    def test_what_is_no_form_is_not_refused(self):
        for n, a in samples.not_forms():
            self.assertNotIn(fm_good(n, a), ([-1], [-2]))
