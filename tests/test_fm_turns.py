"""Promise 5 of fm_turns."""

import unittest

from formkeepdesk.forms import fm_turns
from tests import samples, slow_changes

FEW_SIZES = (1, 2, 3, 4)


class Turns(unittest.TestCase):
    def test_against_a_search_in_each_size(self):
        for n in FEW_SIZES:
            seen = {}
            for a in slow_changes.ordinary_forms(n):
                turns = len(slow_changes.changes_between(n, a, a))
                seen[turns] = True
                with self.subTest(n=n, a=a):
                    self.assertEqual(fm_turns(n, a), [turns])
            self.assertIn(2, seen)

    def test_every_small_form_of_two_and_three_rows(self):
        for n, numbers in ((2, range(-4, 6)), (3, (-1, 0, 1, 2))):
            for a in samples.mirrored_lists(n, numbers):
                answer = fm_turns(n, a)
                if answer != [-1]:
                    self.assertEqual(answer, [len(slow_changes.changes_between(n, a, a))], a)

    def test_very_many(self):
        for n, turns in ((1, 2), (2, 8), (3, 48), (4, 384)):
            for own in (1, 2, 32):
                self.assertEqual(fm_turns(n, samples.diagonal([own] * n)), [turns])
        for n, turns in ((1, 2), (2, 12), (3, 48), (4, 240)):
            self.assertEqual(fm_turns(n, samples.chain(n)), [turns])
        self.assertEqual(fm_turns(4, samples.fork(4)), [1152])
        self.assertEqual(fm_turns(4, [number * 16 for number in samples.fork(4)]), [1152])
        self.assertEqual(fm_turns(4, [2, -1, 0, 0, -1, 2, 0, 0, 0, 0, 2, -1, 0, 0, -1, 2]), [288])
        self.assertEqual(fm_turns(4, samples.diagonal([1, 1, 1, 32])), [96])
        self.assertEqual(fm_turns(4, samples.diagonal([1, 32, 1, 32])), [64])

    def test_two_alone(self):
        self.assertEqual(fm_turns(1, [1]), [2])
        self.assertEqual(fm_turns(1, [32]), [2])
        self.assertEqual(fm_turns(2, [3, 1, 1, 5]), [2])
        self.assertEqual(fm_turns(3, [10, 1, -1, 1, 9, -3, -1, -3, 7]), [2])
        for n, a, b in slow_changes.UNLIKE_PAIRS[-1:]:
            self.assertEqual(fm_turns(n, a), [2])
            self.assertEqual(fm_turns(n, b), [2])

    def test_changed_forms_have_as_many(self):
        for n in FEW_SIZES:
            for a in slow_changes.ordinary_forms(n):
                if max(a) <= 16:
                    for b, c in slow_changes.changed_in_bounds(n, a, 400 + n, 2):
                        self.assertEqual(fm_turns(n, b), fm_turns(n, a), (a, b))

    def test_great_numbers(self):
        self.assertEqual(fm_turns(2, [1, 5, 5, 26]), [8])
        self.assertEqual(fm_turns(2, [32, 31, 31, 32]), [4])
        self.assertEqual(fm_turns(4, [1, -2, -2, -2, -2, 5, 2, 2, -2, 2, 9, 6, -2, 2, 6, 13]), [384])


class Edges(unittest.TestCase):
    def test_sizes(self):
        for n in (0, 9, samples.LEAST_INT, samples.GREATEST_INT):
            self.assertEqual(fm_turns(n, []), [-2])
        for n in (5, 8):
            self.assertEqual(fm_turns(n, samples.chain(n)), [-2])
            self.assertEqual(fm_turns(n, [0] * (n * n)), [-2])
        for n in (1, 4):
            self.assertEqual(fm_turns(n, [0] * (n * n)), [-1])
