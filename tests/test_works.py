"""Works: sums, what they are held to, their least worths, and the least costs of slots."""

import itertools
import random
import time
import unittest

import helper
from wakedenough.rows import row_cost
from wakedenough.slots import ended
from wakedenough.works import NOTHING, held, high_of, least_cost, least_costs, low_of
from wakedenough.works import sum_of, work_after, works_of, worth_at

V = ((1, 2, 1, (1,)), (0, 2, 0, (1, 1)), (0, 2, 0, (1, 1)), (1, 2, 1, (1,)))
V_WORKS = [(1, 2, 4, (4,)), (0, 2, 4, (1, 4)), (0, 2, 4, (2, 4)), (1, 2, 7, (4,))]


def plain_held(work, b, x):
    """The worth of HELD at x: the least over all numbers of the work."""
    return min(helper.cost_of(work, y) + b * max(0, x - y) for y in helper.numbers_of(work))


def all_works(high, rises):
    """All works with numbers to high and slopes from some; worths below 0 are among them."""
    for low in range(high + 1):
        for most in range(low, high + 1):
            for slopes in itertools.combinations_with_replacement(rises, most - low):
                yield (low, most, 3 * low - 5, slopes)


WORKS = list(all_works(3, (-7, -1, 0, 1, 2, 3, 9)))


class Worths(unittest.TestCase):
    def test_nothing(self):
        self.assertEqual(NOTHING, (0, 0, 0, ()))
        self.assertEqual(worth_at(NOTHING, 0), 0)
        self.assertIsNone(worth_at(NOTHING, 1))

    def test_worths(self):
        self.assertEqual([worth_at((2, 5, -3, (-4, 0, 9)), x) for x in range(1, 7)], [None, -3, -7, -7, 2, None])
        for x in (-10 ** 20, -1, 10 ** 20):
            self.assertIsNone(worth_at((2, 5, -3, (-4, 0, 9)), x))
        for work in WORKS:
            for x in helper.numbers_of(work):
                self.assertEqual(worth_at(work, x), helper.cost_of(work, x))


class Sums(unittest.TestCase):
    def test_sums(self):
        self.assertEqual(sum_of((1, 3, 5, (1, 2)), (2, 5, -1, (-4, 0, 9))), (2, 3, 5, (-2,)))
        self.assertEqual(sum_of((0, 2, 1, (1, 2)), (2, 4, 10, (3, 4))), (2, 2, 14, ()))
        self.assertEqual(sum_of(NOTHING, NOTHING), NOTHING)

    def test_no_sum(self):
        self.assertIsNone(sum_of((0, 1, 1, (1,)), (2, 4, 10, (3, 4))))
        self.assertIsNone(sum_of((2, 4, 10, (3, 4)), (0, 1, 1, (1,))))
        self.assertIsNone(sum_of(NOTHING, (10 ** 6, 10 ** 6, 0, ())))

    def test_all_sums(self):
        for one, other in itertools.product(WORKS[::3], WORKS[::4]):
            both = [x for x in helper.numbers_of(one) if other[0] <= x <= other[1]]
            total = sum_of(one, other)
            if not both:
                self.assertIsNone(total)
                continue
            self.assertEqual(total[:2], (both[0], both[-1]))
            self.assertEqual(len(total[3]), len(both) - 1)
            for x in both:
                self.assertEqual(helper.cost_of(total, x), helper.cost_of(one, x) + helper.cost_of(other, x))


class Held(unittest.TestCase):
    def check_held(self, work, b, low, high):
        found = held(work, b, low, high)
        worths = [plain_held(work, b, x) for x in range(low, high + 1)]
        slopes = tuple(late - early for early, late in zip(worths, worths[1:]))
        self.assertEqual(found, (low, high, worths[0], slopes), (work, b, low, high))
        self.assertIs(type(found[3]), tuple)

    def test_near_and_around_the_numbers(self):
        for work in WORKS:
            for b in (1, 2, 4):
                for low in range(7):
                    for high in range(low, 7):
                        self.check_held(work, b, low, high)

    def test_far_away(self):
        for work in [(5, 5, -3, ()), (10 ** 6, 10 ** 6 + 3, 10 ** 15, (-9, 2, 10 ** 12)), (7, 9, 0, (-1, -1)), (3, 4, 8, (9,))]:
            for b in (1, 7, 10 ** 9):
                for low in (0, 10 ** 6 - 3, 10 ** 6 + 2, 10 ** 7, 10 ** 9):
                    for wide in (0, 1, 8):
                        self.check_held(work, b, low, low + wide)

    def test_works_of_one_number(self):
        self.assertEqual(held(NOTHING, 3, 0, 2), (0, 2, 0, (3, 3)))
        self.assertEqual(held((4, 4, 9, ()), 3, 0, 2), (0, 2, 9, (0, 0)))
        self.assertEqual(held((4, 4, 9, ()), 3, 3, 6), (3, 6, 9, (0, 3, 3)))
        self.assertEqual(held((4, 4, 9, ()), 3, 6, 6), (6, 6, 15, ()))

    def test_far_numbers_in_good_time(self):
        begun = time.perf_counter()
        for _ in range(200):
            self.assertEqual(held((0, 1, 0, (5,)), 10 ** 9, 10 ** 15, 10 ** 15 + 2)[2], 5 + 10 ** 9 * (10 ** 15 - 1))
            self.assertEqual(held((10 ** 15, 10 ** 15 + 1, 4, (-1,)), 10 ** 9, 0, 2), (0, 2, 3, (0, 0)))
        self.assertLess(time.perf_counter() - begun, 5)


class Steps(unittest.TestCase):
    def test_work_after(self):
        self.assertEqual(work_after(NOTHING, V[0], 3), V_WORKS[0])
        self.assertEqual(work_after(V_WORKS[0], V[1], 3), V_WORKS[1])
        for work in WORKS[::5]:
            for slot in [(0, 3, 5, (-2, 0, 1)), (2, 2, 0, ()), (5, 7, 4, (-4, 4)), (1, 2, 0, (8,))]:
                after = work_after(work, slot, 2)
                self.assertEqual(after[:2], slot[:2])
                self.assertEqual(len(after[3]), len(slot[3]))
                for x in helper.numbers_of(slot):
                    self.assertEqual(helper.cost_of(after, x), helper.cost_of(slot, x) + plain_held(work, 2, x))

    def test_the_works_of_v(self):
        self.assertEqual(works_of(V, 3), V_WORKS)
        self.assertEqual(works_of((), 3), [])

    def test_low_and_high_of_v(self):
        self.assertEqual([low_of(work) for work in V_WORKS], [1, 0, 0, 1])
        self.assertEqual([high_of(work, 3) for work in V_WORKS], [1, 1, 1, 1])

    def test_low_and_high(self):
        for work in WORKS:
            numbers = list(helper.numbers_of(work))
            least = min(helper.cost_of(work, x) for x in numbers)
            self.assertEqual(low_of(work), min(x for x in numbers if helper.cost_of(work, x) == least))
            for b in (1, 2, 3, 10):
                far = [x for x in numbers[1:] if helper.cost_of(work, x) - helper.cost_of(work, x - 1) <= b]
                self.assertEqual(high_of(work, b), max(far, default=work[0]), (work, b))


class LeastCosts(unittest.TestCase):
    def test_v(self):
        self.assertEqual(least_cost(V, 3), 7)
        self.assertEqual(least_costs(V, 3), [4, 4, 4, 7])
        self.assertEqual(row_cost(V, 3, (1, 1, 1, 1)), 7)

    def test_no_slots(self):
        self.assertEqual(least_cost((), 5), 0)
        self.assertEqual(least_costs((), 5), [])

    def check_slots(self, slots, b):
        """Hold the works and least costs of slots against a going over all rows."""
        works = works_of(slots, b)
        self.assertEqual(len(works), len(slots))
        least = []
        for t in range(len(slots)):
            best = {}
            for row in helper.rows_of(slots[:t + 1]):
                best[row[-1]] = min(best.get(row[-1], 10 ** 30), helper.plain_cost(slots, b, row))
            self.assertEqual({x: helper.cost_of(works[t], x) for x in helper.numbers_of(works[t])}, best)
            least.append(min(best.values()))
            for x in best:
                self.assertEqual(least_cost(ended(slots[:t + 1], x), b), best[x])
        self.assertEqual(least_costs(slots, b), least)
        self.assertEqual(least_cost(slots, b), least[-1])

    def test_all_pairs_of_small_slots(self):
        slots = helper.convex_slots(2, (0, 1, 4), (-3, 0, 1, 5))
        for pair in itertools.product(slots[::2], slots[::3]):
            self.check_slots(pair, 2)

    def test_rows_of_slots(self):
        source = random.Random(2)
        for k in range(60):
            slots = tuple(helper.random_slot(source, 4, 3, 6) for _ in range(1 + k % 5))
            for b in (1, 3, 8):
                self.check_slots(slots, b)

    def test_great_slots_in_good_time(self):
        begun = time.perf_counter()
        slots = tuple((10 ** 6 - 200 - 9 * (t % 3), 10 ** 6 - 9 * (t % 3), 10 ** 12 + t,
                       tuple(range(-100 * (t % 2), -100 * (t % 2) + 200))) for t in range(300))
        works = works_of(slots, 10 ** 9)
        self.assertEqual(len(works), 300)
        costs = least_costs(slots, 10 ** 9)
        self.assertEqual(costs, sorted(costs))
        self.assertEqual(costs[0], 10 ** 12 + 10 ** 9 * (10 ** 6 - 200))
        self.assertEqual(costs[-1], least_cost(slots, 10 ** 9))
        self.assertLess(time.perf_counter() - begun, 20)

    def test_slots_far_from_each_other(self):
        slots = ((10 ** 6, 10 ** 6, 1, ()), (0, 0, 2, ()), (10 ** 6, 10 ** 6, 3, ()))
        self.assertEqual(works_of(slots, 10 ** 9), [(10 ** 6, 10 ** 6, 10 ** 15 + 1, ()), (0, 0, 10 ** 15 + 3, ()),
                                                    (10 ** 6, 10 ** 6, 2 * 10 ** 15 + 6, ())])

    def test_returned_lists_are_new(self):
        for told in (works_of, least_costs):
            before = told(V, 3)
            told(V, 3).append(0)
            self.assertEqual(told(V, 3), before)


if __name__ == "__main__":
    unittest.main()
