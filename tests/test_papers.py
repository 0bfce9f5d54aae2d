"""Papers: prices of best rows, and the first faults of what should be a paper."""

import itertools
import random
import time
import unittest

import helper
from wakedenough.bestrows import best_row, bound_of
from wakedenough.papers import judge_paper, paper_of, prices_for
from wakedenough.runners import LazyRunner
from wakedenough.works import least_cost

V = ((1, 2, 1, (1,)), (0, 2, 0, (1, 1)), (0, 2, 0, (1, 1)), (1, 2, 1, (1,)))
ROW = (1, 1, 1, 1)
PRICES = (3, 1, 2, 3)


class Prices(unittest.TestCase):
    def check_prices(self, slots, b):
        """Hold the prices of all best rows against the words of S4.3."""
        least = min(helper.plain_cost(slots, b, row) for row in helper.rows_of(slots))
        for row in helper.best_rows(slots, b):
            prices = prices_for(slots, b, row)
            self.assertIs(type(prices), tuple)
            self.assertIsNone(helper.plain_paper_fault(slots, b, row, prices), (slots, b, row, prices))
            self.assertIsNone(judge_paper(slots, b, (row, prices)))
            self.assertEqual(bound_of(slots, b, prices), least)
        row, prices = paper_of(slots, b)
        self.assertIn(row, helper.best_rows(slots, b))
        self.assertIsNone(helper.plain_paper_fault(slots, b, row, prices))

    def test_v(self):
        for b in (1, 2, 3, 4):
            self.check_prices(V, b)
        self.assertEqual(paper_of(V, 3)[0], ROW)

    def test_no_slots(self):
        self.assertEqual(prices_for((), 3, ()), ())
        self.assertEqual(paper_of((), 3), ((), ()))

    def test_all_pairs_of_small_slots(self):
        for pair in helper.pairs_of_small_slots():
            self.check_prices(pair, 1)
            self.check_prices(pair, 3)

    def test_rows_of_slots(self):
        for slots in helper.random_slot_rows(13, 80, 6):
            for b in (1, 2, 5, 30):
                self.check_prices(slots, b)

    def test_slots_of_one_price(self):
        for slots in itertools.product([(0, 2, 2, (-1, -1)), (0, 2, 0, (1, 1)), (0, 2, 1, (0, 0)), (1, 1, 0, ())], repeat=4):
            self.check_prices(slots, 2)

    def test_far_slots(self):
        slots = ((10 ** 6, 10 ** 6, 1, ()), (0, 1, 10 ** 12, (-10 ** 12,)), (10 ** 5, 10 ** 5 + 1, 3, (1,)), (0, 0, 0, ()))
        for b in (1, 10 ** 9):
            row, prices = paper_of(slots, b)
            self.assertEqual(row, (10 ** 6, 1, 10 ** 5, 0))
            self.assertIsNone(judge_paper(slots, b, (row, prices)))
            self.assertEqual(bound_of(slots, b, prices), least_cost(slots, b))

    def test_great_slots_in_good_time(self):
        begun, slots = time.perf_counter(), helper.great_slots()
        for b in (1, 60, 10 ** 9):
            row, prices = paper_of(slots, b)
            self.assertEqual(prices, prices_for(slots, b, best_row(slots, b)))
            self.assertIsNone(judge_paper(slots, b, (row, prices)))
            self.assertEqual(bound_of(slots, b, prices), least_cost(slots, b))
        self.assertLess(time.perf_counter() - begun, 20)


class Judging(unittest.TestCase):
    def judge(self, row, prices, b=3):
        return judge_paper(V, b, (row, prices))

    def test_papers_that_are_some(self):
        self.assertIsNone(self.judge(ROW, PRICES))
        self.assertIsNone(self.judge(ROW, (3, 0, 1, 2)))
        self.assertIsNone(judge_paper((), 3, ((), ())))
        self.assertIsNone(judge_paper((), 0, ((), ())))

    def test_form(self):
        wrong = [(ROW,), (ROW, PRICES, ()), [ROW, PRICES], (list(ROW), PRICES), (ROW, list(PRICES)), (ROW[:3], PRICES[:3]),
                 (ROW, PRICES[:3]), (ROW, PRICES + (0,)), (ROW + (0,), PRICES), ((), ()), {0: ROW, 1: PRICES},
                 ((True,) * 4, PRICES), (ROW, (3, True, 2, 3)), (ROW, (3, 1, None, 3)), ((1, 1, 1, "1"), PRICES), ROW]
        for value in wrong + helper.ANYTHING:
            self.assertEqual(judge_paper(V, 3, value), ("form",), value)
        self.assertEqual(judge_paper(V, 3, LazyRunner(3)), ("form",))
        for value in helper.ANYTHING:
            if type(value) is not int:
                for t in range(4):
                    self.assertEqual(self.judge(helper.changed_at(ROW, t, value), PRICES), ("form",))
                    self.assertEqual(self.judge(ROW, helper.changed_at(PRICES, t, value)), ("form",))
            if value != ((), ()):
                self.assertEqual(judge_paper((), 3, value), ("form",))

    def test_serves(self):
        self.assertEqual(self.judge((0, 1, 1, 1), PRICES), ("serves", 0))
        self.assertEqual(self.judge((1, 1, 3, 0), PRICES), ("serves", 2))
        self.assertEqual(self.judge((1, -1, 1, 1), PRICES), ("serves", 1))
        self.assertEqual(self.judge((1, 1, 1, 10 ** 40), PRICES), ("serves", 3))

    def test_price(self):
        self.assertEqual(self.judge(ROW, (4, 1, 2, 3)), ("price", 0))
        self.assertEqual(self.judge(ROW, (3, 1, -1, 9)), ("price", 2))
        self.assertEqual(self.judge(ROW, (3, 1, 2, 10 ** 40)), ("price", 3))
        self.assertEqual(self.judge(ROW, PRICES, 2), ("price", 0))
        self.assertEqual(self.judge(ROW, PRICES, 0), ("price", 0))

    def test_least(self):
        self.assertEqual(self.judge(ROW, (3, 2, 2, 3)), ("least", 1))
        self.assertEqual(self.judge((1, 1, 2, 1), (3, 1, 2, 2)), ("least", 2))
        self.assertEqual(self.judge((2, 2, 2, 2), (3, 1, 2, 3)), ("least", 0))
        self.assertEqual(self.judge((1, 0, 0, 1), (3, 1, 3, 3)), ("least", 1))

    def test_start(self):
        slots = ((1, 1, 0, ()), (2, 2, 0, ()))
        self.assertEqual(judge_paper(slots, 3, ((1, 2), (2, 3))), ("start", 0))
        self.assertEqual(judge_paper(slots, 3, ((1, 2), (3, 2))), ("start", 1))
        self.assertEqual(judge_paper(slots, 3, ((1, 2), (0, 0))), ("start", 0))
        self.assertIsNone(judge_paper(slots, 3, ((1, 2), (3, 3))))
        self.assertIsNone(judge_paper(slots, 0, ((1, 2), (0, 0))))

    def test_stop(self):
        slots = ((2, 2, 0, ()), (1, 1, 0, ()), (0, 0, 0, ()))
        self.assertEqual(judge_paper(slots, 3, ((2, 1, 0), (3, 1, 0))), ("stop", 1))
        self.assertEqual(judge_paper(slots, 3, ((2, 1, 0), (3, 0, 3))), ("stop", 2))
        self.assertIsNone(judge_paper(slots, 3, ((2, 1, 0), (3, 0, 0))))

    def test_a_first_number_of_nothing_is_no_stop(self):
        self.assertIsNone(judge_paper(((0, 0, 5, ()),), 3, ((0,), (2,))))
        self.assertIsNone(judge_paper(((0, 0, 5, ()),), 0, ((0,), (0,))))

    def test_the_first_of_several(self):
        slots = ((1, 1, 0, ()), (0, 1, 0, (1,)), (0, 0, 0, ()))
        self.assertEqual(judge_paper(slots, 3, ((2, 1, 0), (4, 3, 3))), ("serves", 0))
        self.assertEqual(judge_paper(slots, 3, ((1, 1, 1), (4, 3, 3))), ("serves", 2))
        self.assertEqual(judge_paper(slots, 3, ((1, 1, 0), (1, 2, 4))), ("price", 2))
        self.assertEqual(judge_paper(slots, 3, ((1, 1, 0), (1, 2, 3))), ("start", 0))
        self.assertEqual(judge_paper(slots, 3, ((1, 1, 0), (1, 3, 1))), ("least", 1))
        self.assertEqual(judge_paper(slots, 3, ((1, 1, 0), (3, 0, 1))), ("stop", 2))

    def test_pairs_of_all_sorts_against_the_words(self):
        source = random.Random(14)
        words = set()
        for _ in range(3000):
            slots = tuple(helper.random_slot(source, 2, 2, 3) for _ in range(source.randrange(1, 4)))
            b = source.randrange(4)
            if source.randrange(2):
                row = tuple(source.randrange(-1, 4) for _ in slots)
            else:
                row = tuple(source.choice(helper.numbers_of(slot)) for slot in slots)
            prices = tuple(source.randrange(-1 * (source.randrange(8) == 0), b + 1) for _ in slots)
            fault = helper.plain_paper_fault(slots, b, row, prices)
            words.add(fault[0] if fault else None)
            self.assertEqual(judge_paper(slots, b, (row, prices)), fault, (slots, b, row, prices))
        self.assertEqual(words, {None, "serves", "price", "least", "start", "stop"})


if __name__ == "__main__":
    unittest.main()
