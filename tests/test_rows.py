"""Fleet rows: whether they serve, and what they cost."""

import itertools
import unittest

import helper
from wakedenough.rows import row_cost, running_cost, serves, starts, stops

V = ((1, 2, 1, (1,)), (0, 2, 0, (1, 1)), (0, 2, 0, (1, 1)), (1, 2, 1, (1,)))
FALLING = ((0, 2, 9, (-4, 2)), (1, 1, 5, ()), (2, 3, 0, (7,)))


class Serving(unittest.TestCase):
    def test_rows_that_serve(self):
        for row in [(1, 0, 0, 1), (2, 2, 2, 2), (1, 2, 0, 1)]:
            self.assertIs(serves(V, row), True)
        self.assertIs(serves((), ()), True)

    def test_rows_that_do_not(self):
        for row in [(0, 0, 0, 1), (3, 0, 0, 1), (1, 0, 0, 0), (1, 0, 0, 3), (1, -1, 0, 1), (1, 0, 3, 1), (-5,) * 4]:
            self.assertIs(serves(V, row), False)
            self.assertIsNone(running_cost(V, row))
            self.assertIsNone(row_cost(V, 3, row))

    def test_all_rows(self):
        serving = set(helper.rows_of(FALLING))
        for row in itertools.product(range(-1, 5), repeat=3):
            self.assertIs(serves(FALLING, row), row in serving)


class Moving(unittest.TestCase):
    def test_starts_and_stops(self):
        for row, up, down in [((), 0, 0), ((0,), 0, 0), ((3,), 3, 0), ((2, 0, 1), 3, 2), ((1, 1, 1), 1, 0),
                              ((5, 2, 2, 4, 0), 7, 7), ((10 ** 20, 0), 10 ** 20, 10 ** 20)]:
            self.assertEqual((starts(row), stops(row)), (up, down), row)

    def test_numbers_below_0(self):
        for row, up, down in [((-3,), 0, 3), ((-3, 2), 5, 3), ((2, -1, -4, 0), 6, 6), ((-1, -1), 0, 1)]:
            self.assertEqual((starts(row), stops(row)), (up, down), row)

    def test_nothing_is_counted_behind_the_last_tick(self):
        self.assertEqual(stops((4, 4)), 0)
        self.assertEqual(stops((4, 1)), 3)


class Costs(unittest.TestCase):
    def test_running_cost(self):
        self.assertEqual(running_cost(V, (1, 0, 0, 1)), 2)
        self.assertEqual(running_cost(V, (1, 1, 1, 1)), 4)
        self.assertEqual(running_cost(FALLING, (1, 1, 3)), 5 + 5 + 7)
        self.assertEqual(running_cost((), ()), 0)

    def test_row_cost(self):
        self.assertEqual(row_cost(V, 3, (1, 0, 0, 1)), 8)
        self.assertEqual(row_cost(V, 3, (1, 1, 1, 1)), 7)
        self.assertEqual(row_cost((), 3, ()), 0)

    def test_all_rows(self):
        for row in helper.rows_of(FALLING):
            running = sum(helper.cost_of(slot, x) for slot, x in zip(FALLING, row))
            self.assertEqual(running_cost(FALLING, row), running)
            for b in (1, 4, 10 ** 9):
                self.assertEqual(row_cost(FALLING, b, row), running + b * helper.plain_starts(row))


if __name__ == "__main__":
    unittest.main()
