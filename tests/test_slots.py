"""Slots that are made of needs, prices and costs, or of other slots."""

import itertools
import unittest

import helper
from wakedenough.errors import BadTree
from wakedenough.sheets import check_slots, slot_cost
from wakedenough.slots import bare, ended, plain_slot, slot_of

V = ((1, 2, 1, (1,)), (0, 2, 0, (1, 1)), (0, 2, 0, (1, 1)), (1, 2, 1, (1,)))


def first_wrong_cost(costs):
    """The number of the first cost that is wrong, or None, as the document words it."""
    for k, cost in enumerate(costs):
        if cost < 0:
            return k
        if k >= 2 and cost - costs[k - 1] < costs[k - 1] - costs[k - 2]:
            return k
    return None


class PlainSlots(unittest.TestCase):
    def test_the_slots_of_v(self):
        self.assertEqual(tuple(plain_slot(need, 2, 1) for need in (1, 0, 0, 1)), V)

    def test_the_costs(self):
        for need in range(4):
            for most in range(need, 6):
                for price in (0, 1, 7, 10 ** 12):
                    slot = plain_slot(need, most, price)
                    check_slots((slot,))
                    self.assertEqual(slot[:2], (need, most))
                    for x in range(need, most + 1):
                        self.assertEqual(slot_cost(slot, x), x * price)

    def test_one_number(self):
        self.assertEqual(plain_slot(3, 3, 5), (3, 3, 15, ()))
        self.assertEqual(plain_slot(0, 0, 5), (0, 0, 0, ()))


class SlotsOfCosts(unittest.TestCase):
    def test_slots(self):
        self.assertEqual(slot_of(2, (2, 3, 4, 8)), (2, 5, 2, (1, 1, 4)))
        self.assertEqual(slot_of(0, (9, 6, 4, 4, 5)), (0, 4, 9, (-3, -2, 0, 1)))
        self.assertEqual(slot_of(7, (5,)), (7, 7, 5, ()))
        self.assertEqual(slot_of(7, (0,)), (7, 7, 0, ()))
        self.assertEqual(slot_of(0, (5, 1)), (0, 1, 5, (-4,)))

    def check_path(self, costs, k):
        with self.assertRaises(BadTree) as caught:
            slot_of(3, costs)
        self.assertEqual(caught.exception.path, (k,), costs)

    def test_costs_below_0(self):
        self.check_path((-1,), 0)
        self.check_path((-1, -5, -20), 0)
        self.check_path((0, -1), 1)
        self.check_path((3, 1, -1), 2)

    def test_costs_that_rise_less(self):
        self.check_path((0, 1, 1), 2)
        self.check_path((5, 5, 4), 2)
        self.check_path((9, 6, 2), 2)
        self.check_path((0, 1, 2, 3, 3, 2), 4)

    def test_whichever_comes_first(self):
        self.check_path((0, 2, 3, -1), 2)
        self.check_path((3, -1, 9, 9), 1)
        self.check_path((0, 2, -1), 2)

    def test_all_small_costs(self):
        for many in range(1, 6):
            for costs in itertools.product(range(-1, 4), repeat=many):
                k = first_wrong_cost(costs)
                if k is not None:
                    self.check_path(costs, k)
                    continue
                slot = slot_of(3, costs)
                check_slots((slot,))
                self.assertEqual([slot_cost(slot, x) for x in helper.numbers_of(slot)], list(costs))
                self.assertEqual(slot[0], 3)


class Others(unittest.TestCase):
    def test_ended(self):
        self.assertEqual(ended(V, 1), V[:3] + ((1, 1, 1, ()),))
        self.assertEqual(ended(V, 2), V[:3] + ((2, 2, 2, ()),))
        self.assertEqual(ended(((1, 4, 6, (-2, 0, 3)),), 4), ((4, 4, 7, ()),))
        self.assertEqual(ended(((1, 4, 6, (-2, 0, 3)),), 1), ((1, 1, 6, ()),))

    def test_bare(self):
        self.assertEqual(bare(V), ((1, 2, 0, (0,)), (0, 2, 0, (0, 0)), (0, 2, 0, (0, 0)), (1, 2, 0, (0,))))
        self.assertEqual(bare(((3, 3, 8, ()), (0, 1, 9, (-9,)))), ((3, 3, 0, ()), (0, 1, 0, (0,))))
        self.assertEqual(bare(()), ())


if __name__ == "__main__":
    unittest.main()
