"""Need papers, and the first faults of what should be some."""

import random
import time
import unittest

import helper
from wakedenough.layers import least_by_layers
from wakedenough.needpapers import judge_need_paper, need_paper
from wakedenough.runners import SightRunner
from wakedenough.valleys import valleys

Z = (2, 0, 0, 3, 1, 2)
PAPER = (((1, 2, 0, 2), 2), ((4, 1, 1, 2), 1))
# With b 2 the needs of Z alone show 8 + 6, its valleys 4 and 1 beside this.


class NeedPapers(unittest.TestCase):
    def check_all(self, needs, b, least):
        for m in (0, 1, least - 10 ** 20, least // 2, least - 1, least, least + 1, 2 * least + 2, 10 ** 30, -1, -10 ** 30):
            paper = need_paper(needs, b, m)
            self.assertEqual(paper is not None, m <= least, (needs, b, m))
            if paper is not None:
                self.assertIs(type(paper), tuple)
                self.assertIsNone(judge_need_paper(needs, b, m, paper), (needs, b, m))

    def test_z(self):
        self.assertEqual(need_paper(Z, 2, 19), PAPER)
        self.assertIsNone(need_paper(Z, 2, 20))
        for b in (1, 2, 3, 10 ** 9):
            self.check_all(Z, b, least_by_layers(Z, b))

    def test_against_all_rows(self):
        for high, ticks in ((1, 6), (2, 5), (3, 4)):
            for needs in helper.small_need_rows(ticks, high):
                for b in (1, 2, 3, 100):
                    self.check_all(needs, b, min(helper.need_row_cost(row, b) for row in helper.serving_rows(needs)))

    def test_no_ticks_and_one_tick(self):
        self.assertEqual(need_paper((), 5, 0), ())
        self.assertIsNone(need_paper((), 5, 1))
        for need in (0, 1, 10 ** 9):
            for b in (1, 10 ** 9):
                self.assertEqual(need_paper((need,), b, need * (b + 1)), ())
                self.assertIsNone(need_paper((need,), b, need * (b + 1) + 1))

    def test_long_rows_in_good_time(self):
        begun = time.perf_counter()
        down = tuple(range(10 ** 9, 10 ** 9 - 2500, -1))
        for needs in (down + down[::-1], (10 ** 9, 0) * 2500, (0,) * 5000):
            for b in (1, 100, 10 ** 9):
                self.check_all(needs, b, least_by_layers(needs, b))
        self.assertLess(time.perf_counter() - begun, 20)


class Judging(unittest.TestCase):
    def judge(self, value, m=19, b=2):
        return judge_need_paper(Z, b, m, value)

    def test_papers_that_are_some(self):
        self.assertIsNone(self.judge(PAPER))
        self.assertIsNone(self.judge(PAPER[1:], 15))
        self.assertIsNone(self.judge((((1, 2, 0, 2), 0), ((4, 1, 1, 2), 0)), 14))
        self.assertIsNone(self.judge((), 14))
        self.assertIsNone(judge_need_paper((), 1, 0, ()))
        self.assertIsNone(self.judge((((1, 2, 0, 2), 1), ((4, 1, 1, 2), 1)), 17))

    def test_form(self):
        valley = (1, 2, 0, 2)
        wrong = [list(PAPER), (list(PAPER[0]),), ((list(valley), 2),), ((valley,),), ((valley, 2, 2),), (valley, 2), valley,
                 ((valley, True),), ((valley, -1),), ((valley, None),), (((1, 2, False, 2), 2),), (((1, 2, 0), 2),),
                 (((1, 2, 0, 2, 0), 2),), (((1, 2, 0, -2), 2),), (((1, 2, 0, "2"), 2),), PAPER + (None,), PAPER + (PAPER,),
                 (((True, 2, 0, 2), 2),), (PAPER[0], (PAPER[1][0], False)), {PAPER[0]: 1}, {}]
        for value in wrong + [value for value in helper.ANYTHING if value != ()]:
            self.assertEqual(self.judge(value), ("form",), value)
        self.assertEqual(self.judge(SightRunner(2, 0)), ("form",))
        self.assertEqual(self.judge((SightRunner(2, 0),)), ("form",))
        for value in [value for value in helper.ANYTHING if type(value) is not int or value < 0]:
            self.assertEqual(self.judge(PAPER[:1] + ((PAPER[1][0], value),)), ("form",), value)
            self.assertEqual(self.judge(((value, 1),)), ("form",), value)
            self.assertEqual(self.judge((((1, 2, value, 2), 1),)), ("form",), value)

    def test_order(self):
        self.assertEqual(self.judge(PAPER[::-1]), ("order", 1))
        self.assertEqual(self.judge((PAPER[0], PAPER[0])), ("order", 1))
        self.assertEqual(self.judge(PAPER + PAPER), ("order", 2))
        self.assertEqual(self.judge((((1, 2, 0, 2), 0), ((1, 2, 0, 2), 1))), ("order", 1))
        self.assertEqual(self.judge(PAPER[:1] + PAPER), ("order", 1))

    def test_valley(self):
        self.assertEqual(self.judge((((1, 2, 0, 1), 1),)), ("valley", 0))
        self.assertEqual(self.judge(PAPER[:1] + (((1, 3, 0, 2), 1),)), ("valley", 1))
        self.assertEqual(self.judge(PAPER + (((5, 1, 0, 1), 1),)), ("valley", 2))
        self.assertEqual(judge_need_paper((), 1, 0, PAPER), ("valley", 0))
        self.assertEqual(self.judge((((1, 2, 0, 10 ** 40), 10 ** 40),)), ("valley", 0))

    def test_number(self):
        self.assertEqual(self.judge((((1, 2, 0, 2), 3), ((4, 1, 1, 2), 1))), ("number", 0))
        self.assertEqual(self.judge((((1, 2, 0, 2), 3),), b=5), ("number", 0))
        self.assertEqual(self.judge((((1, 2, 0, 2), 2),), b=1), ("number", 0))
        self.assertEqual(self.judge((((1, 2, 0, 2), 1), ((4, 1, 1, 2), 2))), ("number", 1))
        self.assertEqual(self.judge((((1, 2, 0, 2), 10 ** 40),)), ("number", 0))

    def test_sum(self):
        self.assertEqual(self.judge(PAPER, 20), ("sum",))
        self.assertEqual(self.judge(PAPER[:1]), ("sum",))
        self.assertEqual(self.judge((((1, 2, 0, 2), 1), ((4, 1, 1, 2), 1)), 18), ("sum",))
        self.assertEqual(self.judge(()), ("sum",))
        self.assertEqual(judge_need_paper((), 1, 1, ()), ("sum",))

    def test_the_first_of_several(self):
        good, strange, great = ((1, 2, 0, 2), 1), ((0, 1, 0, 2), 1), ((4, 1, 1, 2), 9)
        self.assertEqual(self.judge((good, strange, great, None)), ("form",))
        self.assertEqual(self.judge((great, strange, good)), ("order", 1))
        self.assertEqual(self.judge((strange, good, good, great)), ("order", 2))
        self.assertEqual(self.judge((strange, good, great), 99), ("valley", 0))
        self.assertEqual(self.judge((((1, 2, 0, 2), 9), ((2, 1, 0, 2), 1)), 99), ("valley", 1))
        self.assertEqual(self.judge((good, great), 99), ("number", 1))

    def test_papers_of_all_sorts_against_the_words(self):
        source = random.Random(6)
        for _ in range(400):
            needs = tuple(source.randrange(4) for _ in range(source.randrange(8)))
            b, found = source.randrange(1, 5), valleys(needs)
            paper = tuple((valley, source.randrange(4)) for valley in found if source.randrange(3))
            total = sum(needs) + b * max(needs, default=0) + sum((v[3] - v[2]) * number for v, number in paper)
            m = total + source.randrange(-1, 2)
            bad = [k for k, (valley, number) in enumerate(paper) if number > valley[1] or number > b]
            fault = ("number", bad[0]) if bad else ("sum",) if total < m else None
            self.assertEqual(judge_need_paper(needs, b, m, paper), fault)


if __name__ == "__main__":
    unittest.main()
