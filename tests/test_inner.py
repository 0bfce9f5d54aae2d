"""The inner runner's runs and accounts."""

import itertools
import random
import time
import unittest

import helper
from wakedenough.inner import inner_account, inner_row
from wakedenough.rows import row_cost, serves
from wakedenough.runners import InnerRunner, run
from wakedenough.sight import sight_cost, sight_row
from wakedenough.slots import plain_slot
from wakedenough.works import least_costs

V = ((1, 2, 1, (1,)), (0, 2, 0, (1, 1)), (0, 2, 0, (1, 1)), (1, 2, 1, (1,)))


def plain_row(slots, b):
    """The inner runner's run by the words of S5.7, of works found by going over all rows."""
    row = []
    for worths in helper.plain_works(slots, b):
        row.append(min(max(row[-1] if row else 0, helper.plain_inner_low(worths)), helper.plain_inner_high(worths, b)))
    return tuple(row)


def step_of(slot, worths, b, y):
    """The step of the machine y behind a tick, by the words of S5.8."""
    if y <= slot[0]:
        return 0
    if y > slot[1]:
        return b
    return min(max(0, worths[y] - worths[y - 1]), b)


def rest_of(step, is_on, b):
    return b * (b - 1 - step) if is_on else 2 * (b - 1) * (b - step)


class Accounts(unittest.TestCase):
    def check_sentence(self, slots, b):
        """Hold the account against what S5.8 tells at every tick, and return it."""
        row, account = inner_row(slots, b), inner_account(slots, b)
        self.assertTrue(serves(slots, row))
        self.assertEqual([type(row), type(account)], [tuple, tuple])
        self.assertEqual(tuple(entry[0] for entry in account), row)
        self.assertEqual([entry[2] for entry in account], least_costs(slots, b))
        for _, paid, least, rests in account:
            self.assertGreaterEqual(rests, 0)
            self.assertLessEqual(b * paid + rests, (3 * b - 2) * least)
            if b == 1:
                self.assertEqual(paid, least)
        return account

    def check_machines(self, slots, b):
        """Hold the account against the words of S5.8, each machine with its step."""
        row, account = plain_row(slots, b), self.check_sentence(slots, b)
        self.assertEqual(inner_row(slots, b), row, (slots, b))
        machines = range(1, 3 + max([slot[1] for slot in slots]))
        is_on = {y: False for y in machines}
        for t, worths in enumerate(helper.plain_works(slots, b)):
            steps = {y: step_of(slots[t], worths, b, y) for y in machines}
            for y in machines:
                is_on[y] = steps[y] == 0 or steps[y] < b and is_on[y]
                self.assertEqual(is_on[y], y <= row[t])
            rests = sum(rest_of(steps[y], is_on[y], b) for y in machines)
            paid = helper.plain_cost(slots[:t + 1], b, row[:t + 1])
            self.assertEqual(account[t], (row[t], paid, min(worths.values()), rests), (slots, b, t))

    def test_v(self):
        self.assertEqual(inner_account(V, 3), ((1, 4, 4, 6), (1, 5, 4, 3), (1, 6, 4, 0), (1, 7, 7, 6)))
        self.assertEqual(inner_row(V, 3), (1, 1, 1, 1))
        for b in (1, 2, 3, 4):
            self.check_machines(V, b)

    def test_no_slots(self):
        self.assertEqual(inner_row((), 3), ())
        self.assertEqual(inner_account((), 3), ())

    def test_rows_of_slots(self):
        for slots in helper.random_slot_rows(61, 150, 4):
            for b in (1, 2, 3, 7):
                self.check_machines(slots, b)

    def test_all_pairs_of_small_slots(self):
        for pair in helper.pairs_of_small_slots():
            self.check_machines(pair, 1)
            self.check_machines(pair, 3)

    def test_slots_that_earn(self):
        for slots in itertools.product([helper.EARNS, helper.COSTS, (0, 2, 6, (-3, -3)), (1, 2, 0, (2,))], repeat=4):
            self.check_machines(slots, 2)
            self.check_machines(slots, 5)

    def test_long_rows_of_one_machine(self):
        source = random.Random(62)
        for b in (1, 2, 3, 10):
            for _ in range(20):
                self.check_sentence(tuple(source.choice([helper.EARNS, helper.COSTS, helper.COSTS, (1, 1, 1, ())]) for _ in range(60)), b)

    def test_far_slots(self):
        slots = helper.FAR_SLOTS
        account = self.check_sentence(slots, 1000)
        self.assertEqual([entry[0] for entry in account], [10 ** 6, 1, 10 ** 5, 7])
        self.assertEqual(account[0][3], 10 ** 6 * 1000 * 999)
        self.assertEqual(account[2][3], 10 ** 5 * 1000 * 999 + 2 * (2 * 999 * 4))
        self.assertEqual(account[3][3], 7 * 1000 * 999)

    def test_great_slots_in_good_time(self):
        begun, slots = time.perf_counter(), helper.great_slots()
        for b in (1, 60, 10 ** 6):
            account = self.check_sentence(slots, b)
            self.assertEqual(inner_row(slots, b), run(InnerRunner(b), slots, 0))
            self.assertEqual(account[-1][1], row_cost(slots, b, inner_row(slots, b)))
        self.assertLess(time.perf_counter() - begun, 20)


class PlainSlots(unittest.TestCase):
    def test_it_does_what_the_sight_runner_does_that_sees_nothing(self):
        for high, ticks in ((1, 8), (2, 6), (3, 4)):
            for needs in helper.small_need_rows(ticks, high):
                for most in (high, high + 2):
                    slots = tuple(plain_slot(need, most, 1) for need in needs)
                    for b in (1, 2, 3, 5):
                        self.assertEqual(inner_row(slots, b), sight_row(needs, b, 0), (needs, b))

    def test_n(self):
        needs = (2, 0, 1, 0, 0, 0, 1)
        slots = tuple(plain_slot(need, 2, 1) for need in needs)
        self.assertEqual(inner_row(slots, 3), (2, 2, 2, 1, 1, 0, 1))
        self.assertEqual(inner_account(slots, 3)[-1][:3], (1, 18, 14))
        self.assertEqual(sight_cost(needs, 3, 0), 18)


if __name__ == "__main__":
    unittest.main()
