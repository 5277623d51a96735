"""Promise 5 of fm_same."""

import unittest

from formkeepdesk.forms import fm_det, fm_least, fm_same
from tests import samples, slow_changes

FEW_SIZES = (1, 2, 3, 4)


class Same(unittest.TestCase):
    def check(self, n, a, b, wanted):
        with self.subTest(n=n, a=a, b=b):
            self.assertEqual(fm_same(n, a, b), [wanted])
            self.assertEqual(fm_same(n, b, a), [wanted])

    def test_a_form_and_itself(self):
        for n in FEW_SIZES:
            for a in slow_changes.ordinary_forms(n):
                self.assertEqual(fm_same(n, a, list(a)), [1])

    def test_changed_forms(self):
        for n in FEW_SIZES:
            seen = {}
            for a in slow_changes.ordinary_forms(n):
                # Where numbers are at their bounds, few changes keep them within.
                if max(a) <= 16:
                    for b, c in slow_changes.changed_in_bounds(n, a, 300 + n, 4):
                        seen[samples.slow_det(n, c)] = True
                        self.check(n, a, b, 1)
            self.assertEqual(sorted(seen), [-1, 1])

    def test_changed_by_a_change_with_great_numbers(self):
        self.check(2, [1, 0, 0, 1], [1, 5, 5, 26], 1)
        self.check(2, [1, 0, 0, 1], [26, 5, 5, 1], 1)
        self.check(2, [1, 0, 0, 1], [13, 18, 18, 25], 1)
        self.check(2, [1, 0, 0, 1], [29, 12, 12, 5], 1)
        self.check(4, samples.diagonal([1] * 4), [1, -2, -2, -2, -2, 5, 2, 2, -2, 2, 9, 6, -2, 2, 6, 13], 1)

    def test_rows_and_columns_in_another_order(self):
        self.check(3, samples.diagonal([1, 2, 32]), samples.diagonal([32, 1, 2]), 1)
        self.check(4, samples.diagonal([7, 5, 3, 1]), samples.diagonal([1, 3, 5, 7]), 1)

    def test_by_changes_of_determinant_minus_1_alone(self):
        for n, a, b in slow_changes.TURNED_OVER_PAIRS:
            for change in slow_changes.changes_between(n, a, b):
                self.assertEqual(samples.slow_det(n, samples.flat(change)), -1)
            self.check(n, a, b, 1)

    def test_not_the_same_with_like_determinants_and_least_values(self):
        for n, a, b in slow_changes.UNLIKE_PAIRS:
            self.assertEqual(fm_det(n, a), fm_det(n, b))
            self.assertEqual(fm_least(n, a), fm_least(n, b))
            self.assertEqual(slow_changes.changes_between(n, a, b), [])
            self.check(n, a, b, 0)

    def test_other_determinants(self):
        for n in FEW_SIZES:
            self.check(n, samples.diagonal([1] * n), samples.diagonal([1] * (n - 1) + [2]), 0)
            self.check(n, samples.diagonal([32] * n), samples.diagonal([32] * (n - 1) + [31]), 0)
            self.check(n, samples.diagonal([2] * n), [3 if i == j else 1 for i in range(n) for j in range(n)], 0)
        self.check(1, [7], [8], 0)
        self.check(4, samples.chain(4), samples.fork(4), 0)

    def test_twice_the_whole_is_not_the_same(self):
        # Each of these has all values of the other, in a part of the unknowns or in all of them.
        self.check(2, [1, 0, 0, 4], [2, 0, 0, 2], 0)
        self.check(4, samples.fork(4), samples.diagonal([1, 1, 2, 2]), 0)

    def test_every_pair_of_small_forms_against_a_search(self):
        for n, numbers in ((2, (-2, -1, 0, 1, 2, 3, 4)), (3, (-1, 0, 1, 2))):
            lists = [a for a in samples.mirrored_lists(n, numbers) if fm_det(n, a) != [-1]]
            lists = lists[::1 if n == 2 else 2]
            self.assertGreater(len(lists), 30)
            for a in lists:
                for b in lists:
                    wanted = 1 if slow_changes.changes_between(n, a, b) else 0
                    self.assertEqual(fm_same(n, a, b), [wanted], (a, b))

    def test_drawn_pairs_against_a_search(self):
        numbers = samples.Numbers(17)
        found = {0: 0, 1: 0}
        lists = [drawn_small(4, numbers) for attempt in range(400)]
        lists = [a for a in lists if fm_det(4, a) != [-1]]
        for a, b in zip(lists, lists[1:] + lists[:1]):
            alike = 1 if slow_changes.changes_between(4, a, b) else 0
            found[alike] += 1
            self.check(4, a, b, alike)
        self.assertGreater(min(found.values()), 5)


def drawn_small(n, numbers):
    a = samples.diagonal([numbers.draw(1, 2) for i in range(n)])
    for i in range(n):
        for j in range(i):
            a = samples.with_pair(n, a, i, j, numbers.draw(-1, 1))
    return a


class Edges(unittest.TestCase):
    def test_sizes(self):
        for n in (0, 9, samples.LEAST_INT, samples.GREATEST_INT):
            self.assertEqual(fm_same(n, [], []), [-2])
        for n in (5, 8):
            self.assertEqual(fm_same(n, samples.chain(n), samples.chain(n)), [-2])
        self.assertEqual(fm_same(1, [5], [5]), [1])
        self.assertEqual(fm_same(4, samples.chain(4), samples.chain(4)), [1])

    def test_either_list_or_both_may_be_no_form(self):
        good = [2, 1, 1, 2]
        for bad in ([2, 2, 2, 2], [2, 1, 0, 2], [33, 0, 0, 1], [0, 0, 0, 0]):
            self.assertEqual(fm_same(2, bad, good), [-1])
            self.assertEqual(fm_same(2, good, bad), [-1])
            self.assertEqual(fm_same(2, bad, bad), [-1])
