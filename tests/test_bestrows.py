"""Best rows, bounds of prices, and the least numbers of slots."""

import itertools
import time
import unittest

import helper
from wakedenough.bestrows import best_row, bound_of, least_numbers
from wakedenough.rows import row_cost
from wakedenough.works import high_of, least_cost, low_of, works_of

V = ((1, 2, 1, (1,)), (0, 2, 0, (1, 1)), (0, 2, 0, (1, 1)), (1, 2, 1, (1,)))


def row_from_lows(slots, b):
    """The row from the lows, of works that are found by going over all rows."""
    works = helper.plain_works(slots, b)
    row = []
    for worths in works[::-1]:
        low, high = helper.plain_low(worths), helper.plain_high(worths, b)
        row.insert(0, min(max(row[0], low), high) if row else low)
    return tuple(row)


class BestRows(unittest.TestCase):
    def check_row(self, slots, b):
        row = best_row(slots, b)
        self.assertEqual(row, row_from_lows(slots, b), (slots, b))
        self.assertIs(type(row), tuple)
        self.assertIn(row, helper.best_rows(slots, b))

    def test_v(self):
        self.assertEqual(best_row(V, 3), (1, 1, 1, 1))
        self.assertEqual(best_row(V, 1), (1, 0, 0, 1))
        self.check_row(V, 2)

    def test_no_slots(self):
        self.assertEqual(best_row((), 3), ())

    def test_all_pairs_of_small_slots(self):
        for pair in helper.pairs_of_small_slots():
            self.check_row(pair, 1)
            self.check_row(pair, 3)

    def test_rows_of_slots(self):
        for slots in helper.random_slot_rows(11, 80, 6):
            for b in (1, 2, 5, 30):
                self.check_row(slots, b)

    def test_great_slots_in_good_time(self):
        begun, slots = time.perf_counter(), helper.great_slots()
        for b in (1, 60, 10 ** 9):
            row = best_row(slots, b)
            self.assertEqual(row_cost(slots, b, row), least_cost(slots, b))
            for work, x in zip(works_of(slots, b), row):
                self.assertTrue(low_of(work) <= x <= high_of(work, b))
        self.assertLess(time.perf_counter() - begun, 20)


class LeastNumbers(unittest.TestCase):
    def test_prices(self):
        slot = (2, 5, 7, (-3, 0, 4))
        prices = (-10 ** 30, -5, -4, -3, -1, 0, 1, 2, 3, 4, 10 ** 30)
        self.assertEqual([least_numbers(slot, price) for price in prices],
                         [(5, 5), (5, 5), (4, 5), (4, 4), (4, 4), (3, 4), (3, 3), (3, 3), (2, 3), (2, 2), (2, 2)])

    def test_slots_of_one_number(self):
        for price in (-10 ** 30, -1, 0, 1, 10 ** 30):
            self.assertEqual(least_numbers((3, 3, 5, ()), price), (3, 3))
            self.assertEqual(least_numbers((10 ** 6, 10 ** 6, 10 ** 12, ()), price), (10 ** 6, 10 ** 6))

    def test_level_slots(self):
        self.assertEqual(least_numbers((1, 4, 0, (0, 0, 0)), 0), (1, 4))
        self.assertEqual(least_numbers((1, 4, 9, (2, 2, 2)), -2), (1, 4))

    def test_all_small_slots(self):
        for slot in helper.convex_slots(3, (0, 2, 9), (-4, -1, 0, 2)):
            for price in range(-5, 6):
                worths = {x: helper.cost_of(slot, x) + price * x for x in helper.numbers_of(slot)}
                least = [x for x in worths if worths[x] == min(worths.values())]
                self.assertEqual(least_numbers(slot, price), (min(least), max(least)))


class Bounds(unittest.TestCase):
    def test_v(self):
        self.assertEqual(bound_of(V, 3, (3, 1, 2, 3)), 7)
        self.assertEqual(bound_of(V, 3, (0, 0, 0, 0)), 2)
        self.assertEqual(bound_of(V, 3, (3, 0, 1, 2)), 4 + 0 + 0 + 3)
        self.assertEqual(bound_of(V, 3, (3, 0, 0, 3)), 4 + 0 - 4 + 4)

    def test_no_slots(self):
        self.assertEqual(bound_of((), 3, ()), 0)

    def check_bounds(self, slots, b):
        """Hold the bounds of all prices against their words, and against all rows that serve."""
        least = min(helper.plain_cost(slots, b, row) for row in helper.rows_of(slots))
        greatest = 0
        for prices in itertools.product(range(b + 1), repeat=len(slots)):
            late = prices[1:] + (0,)
            bound = sum(min(helper.cost_of(slot, x) + (p - q) * x for x in helper.numbers_of(slot))
                        for slot, p, q in zip(slots, prices, late))
            self.assertEqual(bound_of(slots, b, prices), bound, (slots, b, prices))
            self.assertLessEqual(bound, least)
            greatest = max(greatest, bound)
        self.assertEqual(greatest, least)

    def test_all_prices(self):
        for slots in helper.random_slot_rows(12, 40, 6):
            for b in (1, 2, 3):
                self.check_bounds(slots[:4], b)

    def test_far_slots(self):
        slots = ((10 ** 6, 10 ** 6, 1, ()), (0, 1, 10 ** 12, (-10 ** 12,)))
        self.assertEqual(bound_of(slots, 10 ** 9, (10 ** 9, 0)), 10 ** 15 + 1)
        self.assertEqual(bound_of(slots, 10 ** 9, (10 ** 9, 10 ** 9)), 1 + 10 ** 9)


if __name__ == "__main__":
    unittest.main()
