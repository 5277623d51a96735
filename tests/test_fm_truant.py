"""Promise 6."""

import unittest

from formkeepdesk.forms import fm_count, fm_truant
from tests import samples, slow_ways

# Own numbers, and the number that they miss first whatever numbers above it come behind them.
HEADS = (
    ([], 1), ([1], 2), ([1, 1], 3), ([1, 2], 5), ([1, 1, 3], 6), ([1, 1, 1], 7), ([1, 2, 2], 7), ([1, 2, 3], 10),
    ([1, 1, 2], 14), ([1, 2, 4], 14), ([1, 2, 5, 5], 15),
)
MISS_NOTHING = ([1, 1, 1, 1], [1, 1, 1, 7], [1, 1, 2, 14], [1, 2, 2, 7], [1, 2, 3, 10], [1, 2, 4, 14], [1, 2, 5, 10])


def missed_by_squares(own):
    counts = slow_ways.counts_of_diagonal(own, 15)
    return min([m for m in range(1, 16) if counts[m] == 0], default=0)


class Truant(unittest.TestCase):
    def check(self, own, wanted):
        with self.subTest(own=own):
            self.assertEqual(missed_by_squares(own), wanted)
            self.assertEqual(fm_truant(len(own), samples.diagonal(own)), [wanted])

    def test_each_number_that_is_missed_first(self):
        seen = {}
        for head, missed in HEADS:
            for n in samples.SIZES:
                if len(head) <= n:
                    for behind in (missed + 1, 16, 32):
                        self.check(head + [behind] * (n - len(head)), missed)
                        seen[n, missed] = True
        for n in range(4, 9):
            self.assertEqual([m for m in range(1, 16) if (n, m) in seen], [1, 2, 3, 5, 6, 7, 10, 14, 15])

    def test_nothing_is_missed(self):
        for own in MISS_NOTHING:
            for n in range(4, 9):
                self.check(own + [32] * (n - 4), 0)
                self.check(own + [3] * (n - 4), 0)

    def test_the_order_of_the_unknowns_does_not_matter(self):
        for head, missed in HEADS:
            if head:
                self.check([32, 31, 30] + head[::-1], missed)
        for own in MISS_NOTHING:
            self.check([32, 31, 30] + own[::-1], 0)

    def test_sums_of_squares_against_another_count(self):
        numbers = samples.Numbers(31)
        for attempt in range(300):
            own = [numbers.draw(1, 7) for i in range(numbers.draw(1, 8))]
            self.check(own, missed_by_squares(own))

    def test_changed_forms(self):
        for n in range(2, 9):
            for head, missed in HEADS + tuple((own, 0) for own in MISS_NOTHING):
                if len(head) > n:
                    continue
                own = head + [16] * (n - len(head))
                numbers = samples.Numbers(600 + n)
                for attempt in range(6):
                    a = samples.changed(n, samples.diagonal(own), samples.drawn_change(n, numbers, 3))
                    if max(abs(number) for number in a) <= 32:
                        self.assertEqual(fm_truant(n, a), [missed], (n, a))

    def test_great_unknowns_at_small_values(self):
        for n, missed in ((1, 2), (2, 3), (3, 7), (4, 0), (5, 0), (6, 0), (7, 0), (8, 0)):
            for number in (-2, 2):
                c = slow_ways.steep_change(n, number)
                self.assertEqual(fm_truant(n, samples.changed(n, samples.diagonal([1] * n), c)), [missed])

    def test_forms_that_are_no_sums_of_squares(self):
        for n in samples.SIZES:
            self.assertEqual(fm_truant(n, samples.chain(n)), [1])
        self.assertEqual(fm_truant(8, samples.exceptional(8)), [1])
        # The value is one number's square and a value of the other form, which has even values alone.
        self.assertEqual(fm_truant(3, [1, 0, 0, 0, 2, 1, 0, 1, 2]), [5])
        self.assertEqual(fm_truant(4, [1, 0, 0, 0, 0, 2, 1, 0, 0, 1, 2, 1, 0, 0, 1, 2]), [0])

    def test_against_a_box(self):
        tried = {}
        for n, a, determinant in samples.good_forms():
            if slow_ways.is_small(n, a, 15) and tried.get(n, 0) < 10:
                missed = [m for m in range(1, 16) if not slow_ways.ways_in_box(n, a, m)]
                self.assertEqual(fm_truant(n, a), [min(missed, default=0)], a)
                tried[n] = tried.get(n, 0) + 1
        self.assertGreater(min(tried.get(n, 0) for n in (1, 2, 3, 4)), 5)

    def test_it_is_the_first_that_is_not_counted(self):
        for n, a, determinant in samples.good_forms():
            missed = fm_truant(n, a)[0]
            for m in range(1, missed if missed > 0 else 16):
                self.assertGreater(fm_count(n, m, a)[1], 0)
            if missed > 0:
                self.assertEqual(fm_count(n, missed, a), [0, 0])


class Edges(unittest.TestCase):
    def test_sizes(self):
        for n in (0, 9, samples.LEAST_INT, samples.GREATEST_INT):
            self.assertEqual(fm_truant(n, []), [-2])
        for n, missed in ((1, 2), (8, 0)):
            self.assertEqual(fm_truant(n, samples.diagonal([1] * n)), [missed])
            self.assertEqual(fm_truant(n, [0] * (n * n)), [-1])
