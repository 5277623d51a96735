"""The row on refusals ahead of the promises, for every call: -2 goes ahead of -1, -1 ahead of -6."""

import unittest

from tests import calls, samples


class OutOfRange(unittest.TestCase):
    def check(self, name, handed):
        with self.subTest(name=name, handed=handed):
            self.assertEqual(calls.answer(name, handed), [-2])

    def test_wrong_sizes(self):
        # No list of no numbers is a form, so -1 would be answered were it looked for first.
        for name in calls.ARGUMENTS:
            for n in samples.WRONG_SIZES:
                for handed in calls.handed_in(name, n, [], calls.VALUES + samples.WRONG_VALUES):
                    self.check(name, handed)

    def test_sizes_from_5_to_8_of_the_calls_that_go_up_to_4(self):
        lists = samples.some_of_each()
        for name in calls.UP_TO_FOUR:
            for n in (5, 6, 7, 8):
                mine = [a for size, a in lists if size == n]
                self.assertGreater(len(mine), 20)
                for a in mine:
                    for handed in calls.handed_in(name, n, a):
                        self.check(name, handed)

    def test_wrong_values(self):
        for name in calls.ARGUMENTS:
            if "m" not in calls.ARGUMENTS[name]:
                continue
            for n in samples.SIZES:
                for a in (samples.chain(n), [0] * (n * n), [33] * (n * n), list(range(n * n))):
                    for handed in calls.handed_in(name, n, a, samples.WRONG_VALUES):
                        self.check(name, handed)


class NoForm(unittest.TestCase):
    def check(self, lists):
        for name in calls.ARGUMENTS:
            if name == "fm_good":
                continue
            for n, a in lists:
                wanted = [-1] if n <= calls.greatest_size(name) else [-2]
                for handed in calls.handed_in(name, n, a):
                    with self.subTest(name=name, handed=handed):
                        self.assertEqual(calls.answer(name, handed), wanted)

    def test_numbers_out_of_bounds(self):
        self.check(samples.not_in_bounds())

    def test_not_the_same_on_both_sides(self):
        self.check(samples.not_mirrored())

    def test_value_not_above_zero(self):
        self.check(samples.not_above_zero())


class NotRefused(unittest.TestCase):
    def test_edges_of_size_and_value(self):
        for name in calls.ARGUMENTS:
            for n in (1, calls.greatest_size(name)):
                for handed in calls.handed_in(name, n, samples.diagonal([1] * n)):
                    with self.subTest(name=name, handed=handed):
                        self.assertGreaterEqual(calls.answer(name, handed)[0], 0)
