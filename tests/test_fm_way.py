"""Promise 3 of fm_way, and its refusal -6."""

import unittest

from formkeepdesk.forms import fm_count, fm_way
from tests import samples, slow_ways


class First(unittest.TestCase):
    def test_squares_summed_at_values_up_to_the_greatest(self):
        for own in ([1], [7], [1, 1], [1, 2, 5], [1] * 4, [1, 2, 3, 4, 5], [1] * 6, [3] * 7, [1] * 8, [2, 3] * 4):
            for m in (0, 1, 2, 7, 15, 30, 33, 63, 64):
                way = slow_ways.first_of_diagonal(own, m)
                wanted = [-6] if way is None else [0] + way
                with self.subTest(own=own, m=m):
                    self.assertEqual(fm_way(len(own), m, samples.diagonal(own)), wanted)

    def test_great_unknowns_at_small_values(self):
        for n in samples.SIZES:
            for number in (-2, -1, 1, 2):
                c = slow_ways.steep_change(n, number)
                a = samples.changed(n, samples.diagonal([1] * n), c)
                for m in (1, 2, 3):
                    with self.subTest(n=n, m=m, number=number):
                        wanted = slow_ways.first_answer(slow_ways.ways_when_changed(n, [1] * n, c, m))
                        self.assertEqual(fm_way(n, m, a), wanted)
        c = slow_ways.steep_change(8, -2)
        a = samples.changed(8, samples.diagonal([1] * 8), c)
        self.assertEqual(fm_way(8, 1, a), [0, -1458, -486, -162, -54, -18, -6, -2, -1])

    def test_changed_forms_at_values_up_to_the_greatest(self):
        for n, own in ((2, [1, 2]), (3, [1, 1, 2]), (4, [1, 1, 3, 5]), (5, [2, 3, 5, 7, 11]), (6, [9, 5] * 3),
                       (7, [16, 9, 25, 31, 29, 11, 7]), (8, [9, 16, 25, 32, 20, 23, 11, 13])):
            for number in (-1, 1):
                c = samples.put_ahead(n, slow_ways.steep_change(2, number))
                a = samples.changed(n, samples.diagonal(own), c)
                for m in (20, 33, 64):
                    with self.subTest(n=n, m=m, number=number):
                        wanted = slow_ways.first_answer(slow_ways.ways_when_changed(n, own, c, m))
                        self.assertEqual(fm_way(n, m, a), wanted)

    def test_its_value_is_m_and_its_opposite_is_not_ahead(self):
        for n, a, determinant in samples.good_forms():
            for m in (1, 2, 5, 12):
                answer = fm_way(n, m, a)
                if answer != [-6]:
                    self.assertEqual(answer[0], 0)
                    self.assertEqual(len(answer), n + 1)
                    self.assertEqual(samples.value(n, a, answer[1:]), m)
                    self.assertLess(answer[1:], [-x for x in answer[1:]])


class Edges(unittest.TestCase):
    def test_no_way(self):
        self.assertEqual(fm_way(1, 2, [1]), [-6])
        self.assertEqual(fm_way(1, 31, [32]), [-6])
        self.assertEqual(fm_way(3, 7, samples.diagonal([1] * 3)), [-6])
        self.assertEqual(fm_way(8, 63, samples.exceptional(8)), [-6])
        for n in samples.SIZES:
            self.assertEqual(fm_way(n, 1, samples.chain(n)), [-6])
            self.assertEqual(fm_way(n, 31, samples.diagonal([32] * n)), [-6])

    def test_no_way_just_where_none_is_counted(self):
        for n, a, determinant in samples.good_forms():
            for m in (1, 2, 3, 7):
                self.assertEqual(fm_way(n, m, a) == [-6], fm_count(n, m, a) == [0, 0], (n, m, a))

    def test_sizes_and_values(self):
        self.assertEqual(fm_way(0, 1, []), [-2])
        self.assertEqual(fm_way(9, 1, []), [-2])
        for n in (1, 8):
            own = samples.diagonal([1] * n)
            for m in (-1, 65):
                self.assertEqual(fm_way(n, m, own), [-2])
            for m, x in ((0, 0), (1, -1), (64, -8)):
                self.assertEqual(fm_way(n, m, own), [0, x] + [0] * (n - 1))
