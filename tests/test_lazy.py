"""The lazy runner's runs and accounts."""

import itertools
import time
import unittest

import helper
from wakedenough.lazy import lazy_account, lazy_row
from wakedenough.rows import row_cost, serves, starts, stops
from wakedenough.runners import LazyRunner, run
from wakedenough.works import least_costs

V = ((1, 2, 1, (1,)), (0, 2, 0, (1, 1)), (0, 2, 0, (1, 1)), (1, 2, 1, (1,)))


def plain_account(slots, b):
    """The account by the words of S5.5 and S5.6, of works found by going over all rows."""
    row, account = [], []
    for t, worths in enumerate(helper.plain_works(slots, b)):
        low = helper.plain_low(worths)
        row.append(min(max(row[-1] if row else 0, low), helper.plain_high(worths, b)))
        begun = helper.plain_starts(row)
        paid = helper.plain_cost(slots[:t + 1], b, row)
        account.append((row[-1], begun, begun - row[-1], paid, min(worths.values()), low))
    return tuple(account)


class Accounts(unittest.TestCase):
    def check_sentence(self, slots, b):
        """Hold the account against what S5.6 tells, and return it."""
        row, account = lazy_row(slots, b), lazy_account(slots, b)
        self.assertTrue(serves(slots, row))
        self.assertEqual([type(row), type(account)], [tuple, tuple])
        self.assertEqual(tuple(entry[0] for entry in account), row)
        self.assertEqual([entry[4] for entry in account], least_costs(slots, b))
        for x, begun, ended, paid, least, low in account:
            self.assertEqual(begun - ended, x)
            self.assertLessEqual(b * begun, least)
            self.assertLessEqual(paid, least + 2 * b * begun - b * low)
            self.assertLessEqual(paid, 3 * least)
        return account

    def check_account(self, slots, b):
        expected = plain_account(slots, b)
        self.assertEqual(self.check_sentence(slots, b), expected, (slots, b))
        self.assertEqual(lazy_row(slots, b), tuple(entry[0] for entry in expected))

    def test_v(self):
        self.assertEqual(lazy_account(V, 3), ((1, 1, 0, 4, 4, 1), (1, 1, 0, 5, 4, 0), (1, 1, 0, 6, 4, 0), (1, 1, 0, 7, 7, 1)))
        self.assertEqual(lazy_row(V, 3), (1, 1, 1, 1))

    def test_no_slots(self):
        self.assertEqual(lazy_row((), 3), ())
        self.assertEqual(lazy_account((), 3), ())

    def test_rows_of_slots(self):
        for slots in helper.random_slot_rows(51, 150, 4):
            for b in (1, 2, 3, 7):
                self.check_account(slots, b)

    def test_all_pairs_of_small_slots(self):
        for pair in helper.pairs_of_small_slots():
            self.check_account(pair, 1)
            self.check_account(pair, 3)

    def test_slots_that_earn(self):
        for slots in itertools.product([helper.EARNS, helper.COSTS, (0, 2, 6, (-3, -3)), (1, 2, 0, (2,))], repeat=4):
            self.check_account(slots, 2)
            self.check_account(slots, 5)

    def test_three_times_the_least_is_reached(self):
        for b in (1, 2, 5, 40):
            slots = (helper.EARNS,) * (b + 1) + (helper.COSTS,) * (b + 1)
            account = self.check_sentence(slots, b)
            self.assertEqual(account[-1][3:5], (3 * b, b))
            self.assertEqual(account[-1][1], 1)

    def test_far_slots(self):
        slots = helper.FAR_SLOTS
        account = self.check_sentence(slots, 10 ** 9)
        self.assertEqual([entry[0] for entry in account], [10 ** 6, 1, 10 ** 5, 7])
        self.assertEqual([entry[1] for entry in account], [10 ** 6, 10 ** 6, 10 ** 6 + 10 ** 5 - 1, 10 ** 6 + 10 ** 5 - 1])
        self.assertEqual(account[-1][3], row_cost(slots, 10 ** 9, lazy_row(slots, 10 ** 9)))

    def test_great_slots_in_good_time(self):
        begun, slots = time.perf_counter(), helper.great_slots()
        for b in (1, 60, 10 ** 6):
            account = self.check_sentence(slots, b)
            row = lazy_row(slots, b)
            self.assertEqual(row, run(LazyRunner(b), slots, 0))
            self.assertEqual(account[-1][1:4], (starts(row), stops(row), row_cost(slots, b, row)))
        self.assertLess(time.perf_counter() - begun, 20)


if __name__ == "__main__":
    unittest.main()
