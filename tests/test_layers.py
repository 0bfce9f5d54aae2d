"""Least costs and best rows of needs, layer by layer."""

import random
import time
import unittest

import helper
from wakedenough.layers import best_by_layers, least_by_layers, least_so_far, row_layers
from wakedenough.slots import plain_slot
from wakedenough.valleys import gaps, layer
from wakedenough.works import least_cost, least_costs

Z = (2, 0, 0, 3, 1, 2)
STARTS = (1, 2, 3, 100, 10 ** 9)


def best_row_by_layers(needs, b):
    """The told best row: each layer on through its gaps of at most b ticks, layer by layer."""
    row = [0] * len(needs)
    for k in range(1, max(needs, default=0) + 1):
        on = list(layer(needs, k))
        for begin, length in gaps(needs, k):
            if length <= b:
                on[begin:begin + length] = [1] * length
        row = [x + more for x, more in zip(row, on)]
    return tuple(row)


def plain_row_layers(row):
    """The row's layers, one layer after the other."""
    told = []
    for k in range(1, max(row, default=0) + 1):
        on = layer(row, k)
        pair = (sum(on), helper.plain_starts(on))
        if told and told[-1][2:] == pair:
            told[-1] = (told[-1][0], k) + pair
        else:
            told.append((k - 1, k) + pair)
    return told


class Least(unittest.TestCase):
    def test_z(self):
        self.assertEqual(least_by_layers(Z, 2), 19)
        self.assertEqual(least_so_far(Z, 2), [6, 6, 6, 15, 16, 19])
        self.assertEqual(best_by_layers(Z, 2), (2, 2, 2, 3, 2, 2))

    def test_no_ticks(self):
        for b in STARTS:
            self.assertEqual(least_by_layers((), b), 0)
            self.assertEqual(least_so_far((), b), [])
            self.assertEqual(best_by_layers((), b), ())

    def test_no_needs(self):
        for b in STARTS:
            self.assertEqual(least_by_layers((0, 0, 0), b), 0)
            self.assertEqual(least_so_far((0, 0, 0), b), [0, 0, 0])
            self.assertEqual(best_by_layers((0, 0, 0), b), (0, 0, 0))

    def test_against_all_rows(self):
        for high, ticks in ((1, 6), (2, 5), (3, 4)):
            for needs in helper.small_need_rows(ticks, high):
                for b in STARTS[:4]:
                    least = min(helper.need_row_cost(row, b) for row in helper.serving_rows(needs))
                    self.assertEqual(least_by_layers(needs, b), least, (needs, b))
                    self.assertEqual(helper.need_row_cost(best_by_layers(needs, b), b), least)

    def test_so_far(self):
        for needs in helper.small_need_rows(6, 2):
            for b in STARTS:
                so_far = [least_by_layers(needs[:t + 1], b) for t in range(len(needs))]
                self.assertEqual(least_so_far(needs, b), so_far)
                for before, cost, need in zip([0, *so_far], so_far, needs):
                    self.assertGreaterEqual(cost - before, need)

    def test_the_told_best_row(self):
        for needs in helper.small_need_rows(7, 2):
            for b in (1, 2, 3, 100):
                row = best_by_layers(needs, b)
                self.assertEqual(row, best_row_by_layers(needs, b))
                self.assertIs(type(row), tuple)
                self.assertTrue(all(x >= need for x, need in zip(row, needs)))

    def test_a_gap_of_just_b_ticks_is_stayed_through(self):
        self.assertEqual(best_by_layers((1, 0, 0, 1), 2), (1, 1, 1, 1))
        self.assertEqual(best_by_layers((1, 0, 0, 1), 1), (1, 0, 0, 1))
        self.assertEqual(best_by_layers((3, 1, 0, 0, 1, 2), 2), (3, 1, 1, 1, 1, 2))
        self.assertEqual(best_by_layers((3, 1, 0, 0, 1, 2), 4), (3, 2, 2, 2, 2, 2))

    def test_against_works(self):
        source = random.Random(4)
        for _ in range(40):
            needs = tuple(source.randrange(6) for _ in range(25))
            top = max(needs)
            slots = tuple(plain_slot(need, top, 1) for need in needs)
            for b in (1, 3, 50, 10 ** 9):
                self.assertEqual(least_by_layers(needs, b), least_cost(slots, b))
                self.assertEqual(least_so_far(needs, b), least_costs(slots, b))

    def test_returned_lists_are_new(self):
        least_so_far(Z, 2).append(0)
        row_layers(Z).append(0)
        self.assertEqual(least_so_far(Z, 2), [6, 6, 6, 15, 16, 19])
        self.assertEqual(row_layers((2, 2, 2, 3, 2, 2)), [(0, 2, 6, 1), (2, 3, 1, 1)])

    def test_long_rows_in_good_time(self):
        begun = time.perf_counter()
        down = tuple(range(10 ** 9, 10 ** 9 - 2500, -1))
        bowl = down + down[::-1]
        comb = (10 ** 9, 0) * 2500
        for b in (1, 2500, 10 ** 9):
            for needs in (bowl, comb):
                so_far = least_so_far(needs, b)
                self.assertEqual(so_far[-1], least_by_layers(needs, b))
                row = best_by_layers(needs, b)
                self.assertEqual(helper.need_row_cost(row, b), so_far[-1])
                self.assertEqual(sum((high - low) * (ticks + b * many) for low, high, ticks, many in row_layers(row)), so_far[-1])
        self.assertEqual(best_by_layers(comb, 1), (10 ** 9,) * 4999 + (0,))
        self.assertEqual(best_by_layers(bowl, 10 ** 9), (10 ** 9,) * 5000)
        self.assertLess(time.perf_counter() - begun, 20)


class RowLayers(unittest.TestCase):
    def test_z(self):
        self.assertEqual(row_layers((2, 2, 2, 3, 2, 2)), [(0, 2, 6, 1), (2, 3, 1, 1)])
        self.assertEqual(row_layers(Z), [(0, 1, 4, 2), (1, 2, 3, 3), (2, 3, 1, 1)])

    def test_no_layers(self):
        for row in ((), (0,), (0, 0, 0), (-1,), (0, -5, 0)):
            self.assertEqual(row_layers(row), [])

    def test_wide_layers(self):
        self.assertEqual(row_layers((10 ** 9, 0, 10 ** 9)), [(0, 10 ** 9, 2, 2)])
        self.assertEqual(row_layers((7, 10 ** 9)), [(0, 7, 2, 1), (7, 10 ** 9, 1, 1)])

    def test_all_small_rows(self):
        for row in helper.small_need_rows(6, 3):
            told = row_layers(row)
            self.assertEqual(told, plain_row_layers(row))
            for b in (1, 5):
                cost = sum((high - low) * (ticks + b * many) for low, high, ticks, many in told)
                self.assertEqual(cost, helper.need_row_cost(row, b))

    def test_neighbours_differ(self):
        source = random.Random(5)
        for _ in range(50):
            told = row_layers(tuple(source.randrange(60) for _ in range(30)))
            self.assertEqual(told[0][0], 0)
            for one, other in zip(told, told[1:]):
                self.assertEqual(one[1], other[0])
                self.assertNotEqual(one[2:], other[2:])


if __name__ == "__main__":
    unittest.main()
