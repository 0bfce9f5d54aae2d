"""Rows with few starts: the least starts, budget costs, and their papers."""

import random
import time
import unittest

import helper
from wakedenough.budgets import budget_cost, budget_paper, judge_budget, least_starts, starts_paper
from wakedenough.papers import judge_paper
from wakedenough.rows import running_cost, starts
from wakedenough.runners import InnerRunner
from wakedenough.slots import bare

V = ((1, 2, 1, (1,)), (0, 2, 0, (1, 1)), (0, 2, 0, (1, 1)), (1, 2, 1, (1,)))
PAPER = (2, (1, 1, 1, 1), (2, 0, 1, 2))


def plain_budget_costs(slots):
    """The dict from each number of starts of a row that serves to the least running cost with just so many."""
    found = {}
    for row in helper.rows_of(slots):
        many = helper.plain_starts(row)
        found[many] = min(found.get(many, 10 ** 40), helper.plain_cost(slots, 0, row))
    return found


class Starts(unittest.TestCase):
    def check_starts(self, slots):
        fewest = min(helper.plain_starts(row) for row in helper.rows_of(slots))
        self.assertEqual(least_starts(slots), fewest, slots)
        row, prices = starts_paper(slots)
        self.assertEqual(helper.plain_starts(row), fewest)
        self.assertIsNone(judge_paper(bare(slots), 1, (row, prices)))
        free = tuple((slot[0], slot[1], 0, (0,) * len(slot[3])) for slot in slots)
        self.assertIsNone(helper.plain_paper_fault(free, 1, row, prices))

    def test_v(self):
        self.assertEqual(least_starts(V), 1)
        self.check_starts(V)

    def test_no_slots(self):
        self.assertEqual(least_starts(()), 0)
        self.assertEqual(starts_paper(()), ((), ()))

    def test_rows_of_slots(self):
        for slots in helper.random_slot_rows(21, 200, 6):
            self.check_starts(slots)

    def test_slots_that_force_stops(self):
        self.assertEqual(least_starts(((3, 3, 0, ()), (0, 1, 0, (5,)), (2, 4, 0, (0, 0)))), 4)
        self.assertEqual(least_starts(((10 ** 6, 10 ** 6, 0, ()), (0, 0, 0, ()), (10 ** 6, 10 ** 6, 0, ()))), 2 * 10 ** 6)
        self.assertEqual(least_starts(((0, 5, 0, (-0,) * 5), (0, 5, 0, (0,) * 5))), 0)


class Costs(unittest.TestCase):
    def check_costs(self, slots):
        """Hold the budget costs, for all s to beyond the most starts, against all rows that serve."""
        found = plain_budget_costs(slots)
        costs = []
        for s in range(max(found) + 4):
            cost = min([found[many] for many in found if many <= s], default=None)
            self.assertEqual(budget_cost(slots, s), cost, (slots, s))
            costs.append(cost)
            self.check_paper(slots, s, cost)
        told = [cost for cost in costs if cost is not None]
        falls = [early - late for early, late in zip(told, told[1:])]
        self.assertEqual(falls, sorted(falls)[::-1])
        self.assertTrue(all(fall >= 0 for fall in falls))

    def check_paper(self, slots, s, cost):
        paper = budget_paper(slots, s)
        if cost is None:
            self.assertIsNone(paper)
            return
        c, row, prices = paper
        self.assertGreaterEqual(c, 0)
        self.assertEqual([type(row), type(prices)], [tuple, tuple])
        self.assertEqual(helper.plain_cost(slots, 0, row), cost)
        self.assertLessEqual(helper.plain_starts(row), s)
        if c > 0:
            self.assertEqual(helper.plain_starts(row), s)
        self.assertIsNone(helper.plain_paper_fault(slots, c, row, prices))
        self.assertIsNone(judge_budget(slots, s, paper))

    def test_v(self):
        self.assertEqual([budget_cost(V, s) for s in range(5)], [None, 4, 2, 2, 2])
        self.assertEqual(budget_paper(V, 1), PAPER)
        self.assertIsNone(budget_paper(V, 0))
        self.check_costs(V)

    def test_no_slots(self):
        for s in (0, 1, 100):
            self.assertEqual(budget_cost((), s), 0)
            self.assertEqual(budget_paper((), s), (0, (), ()))

    def test_rows_of_slots(self):
        for slots in helper.random_slot_rows(22, 150, 6):
            self.check_costs(slots)

    def test_all_pairs_of_small_slots(self):
        for pair in helper.pairs_of_small_slots():
            self.check_costs(pair)

    def test_slots_far_from_each_other(self):
        slots = ((0, 2, 9, (-4, -4)), (7, 9, 5, (1, 2)), (0, 1, 9, (-9,)), (4, 5, 1, (-1,)))
        self.check_costs(slots)
        self.check_costs(slots[::-1])
        self.assertIsNone(budget_cost(((10 ** 6, 10 ** 6 + 3, 1, (1, 1, 1)),), 100))
        self.assertIsNone(budget_paper(((10 ** 6, 10 ** 6 + 3, 1, (1, 1, 1)),), 100))
        self.assertEqual(budget_cost(((100, 110, 70, (-1,) * 10), (0, 0, 5, ())), 100), 75)
        self.assertEqual(budget_cost(((90, 105, 70, (-1,) * 15), (0, 0, 5, ()), (1, 4, 3, (0, 0, 0))), 100), 69)

    def test_great_slots_in_good_time(self):
        begun = time.perf_counter()
        slots = tuple((3 * (t % 4), 3 * (t % 4) + 15, 10 ** 12, tuple(range(-10 ** 10 * (t % 2), -10 ** 10 * (t % 2) + 15)))
                      for t in range(40))
        fewest = least_starts(slots)
        self.assertEqual([budget_cost(slots, s) for s in range(fewest)], [None] * fewest)
        costs = [budget_cost(slots, s) for s in range(fewest, 101)]
        self.assertEqual(costs, sorted(costs)[::-1])
        for s in range(fewest, 101, 9):
            paper = budget_paper(slots, s)
            self.assertIsNone(judge_budget(slots, s, paper))
            self.assertEqual(running_cost(slots, paper[1]), costs[s - fewest])
            self.assertLessEqual(starts(paper[1]), s)
        self.assertLess(time.perf_counter() - begun, 40)


class Judging(unittest.TestCase):
    def judge(self, value, s=1):
        return judge_budget(V, s, value)

    def test_papers_that_are_some(self):
        self.assertIsNone(self.judge(PAPER))
        self.assertIsNone(self.judge((2, (1, 0, 0, 1), (2, 0, 1, 2)), 2))
        self.assertIsNone(self.judge((0, (1, 0, 0, 1), (0, 0, 0, 0)), 2))
        self.assertIsNone(self.judge((0, (1, 0, 0, 1), (0, 0, 0, 0)), 5))
        self.assertIsNone(judge_budget((), 0, (0, (), ())))
        self.assertIsNone(judge_budget((), 3, (0, (), ())))
        self.assertIsNone(judge_budget((), 0, (10 ** 40, (), ())))

    def test_form(self):
        wrong = [PAPER[:2], PAPER + (0,), list(PAPER), (-1,) + PAPER[1:], (True,) + PAPER[1:], (None,) + PAPER[1:],
                 ("2",) + PAPER[1:], (2, list(PAPER[1]), PAPER[2]), (2, PAPER[1], list(PAPER[2])), (2, PAPER[1], PAPER[2][:3]),
                 (2, PAPER[1:], ()), (2, (True, 1, 1, 1), PAPER[2])]
        for value in wrong + helper.ANYTHING:
            self.assertEqual(self.judge(value), ("form",), value)
        self.assertEqual(self.judge(InnerRunner(3)), ("form",))
        for value in helper.ANYTHING:
            if type(value) is not int or value < 0:
                self.assertEqual(self.judge((value,) + PAPER[1:]), ("form",))
            self.assertEqual(self.judge((2, value, PAPER[2])), ("form",))
            self.assertEqual(self.judge((2, PAPER[1], value)), ("form",))

    def test_faults_of_the_paper(self):
        self.assertEqual(self.judge((2, (1, 1, 3, 1), PAPER[2])), ("serves", 2))
        self.assertEqual(self.judge((1,) + PAPER[1:]), ("price", 0))
        self.assertEqual(self.judge((0,) + PAPER[1:]), ("price", 0))
        self.assertEqual(self.judge((2, PAPER[1], (2, 2, 1, 2))), ("least", 1))
        self.assertEqual(self.judge((3,) + PAPER[1:]), ("start", 0))
        self.assertEqual(judge_budget(((2, 2, 0, ()), (1, 1, 0, ())), 2, (3, (2, 1), (3, 1))), ("stop", 1))

    def test_starts(self):
        self.assertEqual(self.judge((2, (1, 0, 0, 1), (2, 0, 1, 2))), ("starts", 2))
        self.assertEqual(self.judge(PAPER, 0), ("starts", 1))
        self.assertEqual(self.judge(PAPER, 2), ("starts", 1))
        self.assertEqual(self.judge((0, (1, 0, 0, 1), (0, 0, 0, 0)), 1), ("starts", 2))
        self.assertEqual(judge_budget((), 1, (1, (), ())), ("starts", 0))

    def test_the_first_of_several(self):
        self.assertEqual(self.judge((-1, (1, 1, 3, 1), PAPER[2]), 9), ("form",))
        self.assertEqual(self.judge((0, (1, 1, 3, 1), (9, 9, 9, 9)), 9), ("serves", 2))
        self.assertEqual(self.judge((3,) + PAPER[1:], 9), ("start", 0))

    def test_triples_of_all_sorts_against_the_words(self):
        source = random.Random(23)
        words = set()
        for _ in range(3000):
            slots = tuple(helper.random_slot(source, 2, 2, 2) for _ in range(source.randrange(1, 4)))
            c, s = source.randrange(3), source.randrange(4)
            row = tuple(source.choice(helper.numbers_of(slot)) for slot in slots)
            prices = tuple(source.randrange(c + 1) for _ in slots)
            many = helper.plain_starts(row)
            fault = helper.plain_paper_fault(slots, c, row, prices)
            if fault is None and (many > s or c > 0 and many != s):
                fault = ("starts", many)
            words.add(fault[0] if fault else None)
            self.assertEqual(judge_budget(slots, s, (c, row, prices)), fault)
        self.assertEqual(words, {None, "least", "start", "stop", "starts"})


if __name__ == "__main__":
    unittest.main()
