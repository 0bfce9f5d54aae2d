"""Rules: their rows, what they do not serve, serving papers, and the sight runner as a rule."""

import itertools
import math
import random
import time
import unittest

import helper
from helper import K, random_rule
from wakedenough.factors import excess, factor
from wakedenough.rules import judge_serving, rule_cost, rule_row, serving_paper, sight_rule, unmet
from wakedenough.runners import RuleRunner, SightRunner, run
from wakedenough.sheets import check_rule

# It fails first with the needs 1, 1, 2: only its state 2 has too few on.
LATE = (2, (((0, 0), (1, 1), (2, 0)), ((0, 0), (1, 2), (2, 0)), ((1, 0), (1, 0), (1, 2))))
# As K, but with a state that nothing leads to, and that serves nothing.
APART = (1, K[1] + (((0, 2), (0, 2)),))


def short_rows(most, ticks):
    for many in range(ticks + 1):
        yield from itertools.product(range(most + 1), repeat=many)


def is_served(rule, needs):
    return all(x >= need for x, need in zip(helper.rule_fleet(rule, needs), needs))


def plain_serving_fault(rule, m, value):
    """The first fault by the words of S7.4 and of the interface, of a tuple of numbers and None."""
    if value[0] != 0 or value[0] is None:
        return ("start",)
    for s, d in enumerate(value):
        if d is None:
            continue
        for n in range(rule[0] + 1):
            x, late = rule[1][s][n]
            is_led = value[late] is not None and value[late] <= d + 1
            is_enough = x >= n or (m is not None and d >= m - 1)
            if not (is_led and is_enough):
                return ("state", s, n)
    return None


class Rows(unittest.TestCase):
    def test_k(self):
        self.assertEqual(rule_row(K, (1, 0, 0, 1)), (1, 1, 0, 1))
        self.assertEqual(rule_cost(K, 2, (1, 0, 0, 1)), 3 + 4)

    def test_against_a_plain_going(self):
        source = random.Random(201)
        for k in range(60):
            rule = random_rule(source, 1 + k % 4, 1 + k % 5)
            needs = tuple(source.randrange(rule[0] + 1) for _ in range(k % 9))
            row = rule_row(rule, needs)
            self.assertEqual(row, tuple(helper.rule_fleet(rule, needs)))
            self.assertIs(type(row), tuple)
            self.assertEqual(row, run(RuleRunner(rule), needs, 0))
            for b in (1, 7):
                self.assertEqual(rule_cost(rule, b, needs), sum(row) + b * helper.plain_starts(row))

    def test_rows_that_are_not_served(self):
        none = (2, (((0, 0), (0, 0), (0, 0)),))
        self.assertEqual(rule_row(none, (2, 1, 2)), (0, 0, 0))
        self.assertEqual(rule_cost(none, 5, (2, 1, 2)), 0)
        self.assertEqual(rule_row(LATE, (1, 1, 2)), (1, 1, 1))
        self.assertEqual(rule_cost(LATE, 3, (1, 1, 2)), 3 + 3)

    def test_no_needs_and_lists(self):
        self.assertEqual([rule_row(K, ()), rule_cost(K, 9, ())], [(), 0])
        self.assertEqual(rule_row(K, [1, 0]), (1, 1))
        self.assertEqual(rule_cost(K, 2, [1, 0]), 4)

    def test_long_rows(self):
        needs = (1, 0, 0) * 666
        self.assertEqual(rule_row(K, needs), (1, 1, 0) * 666)
        self.assertEqual(rule_cost(K, 20, needs), 666 * 22)


class Unmet(unittest.TestCase):
    def test_some(self):
        self.assertIsNone(unmet(K))
        self.assertIsNone(unmet(APART))
        self.assertEqual(unmet(LATE), (1, 1, 2))
        self.assertEqual(unmet((1, (((0, 0), (0, 0)),))), (1,))

    def test_by_trying_all_short_rows(self):
        source = random.Random(202)
        seen = set()
        for k in range(300):
            most, states = (1, 2, 3)[k % 3], 1 + k % 4
            rule = helper.fit_rule(source, most, states)
            if k % 2:
                at = source.randrange(states)
                pairs = helper.changed_at(rule[1][at], most, (most - 1, rule[1][at][most][1]))
                rule = (most, helper.changed_at(rule[1], at, pairs))
            row = unmet(rule)
            # No state is more than states - 1 ticks away from state 0.
            bad = next((needs for needs in short_rows(most, states) if not is_served(rule, needs)), None)
            self.assertEqual(row is None, bad is None, rule)
            if row is not None:
                self.assertEqual(len(row), len(bad), rule)
                self.assertFalse(is_served(rule, row))
                self.assertIs(type(row), tuple)
                self.assertTrue(all(type(need) is int for need in row))
                seen.add(len(row))
        self.assertGreaterEqual(len(seen), 3)

    def test_forty_states(self):
        chain = tuple(((0, 0), (1, min(s + 1, 39))) for s in range(39)) + (((0, 0), (0, 0)),)
        self.assertEqual(unmet((1, chain)), (1,) * 40)


class ServingPapers(unittest.TestCase):
    def test_k(self):
        self.assertEqual(serving_paper(K, None), (0, 1))
        self.assertEqual(serving_paper(APART, None), (0, 1, None))

    def test_there_is_one_just_when_rows_are_served(self):
        source = random.Random(203)
        rules = [LATE, APART] + [random_rule(source, 1 + k % 3, 1 + k % 4) for k in range(80)]
        for k in range(60):
            rule = helper.fit_rule(source, 2, 3)
            low = helper.changed_at(rule[1][2], 2, (1, 0))
            rules += [rule, (2, helper.changed_at(rule[1], 2, low))]
        for rule in rules:
            row = unmet(rule)
            paper = serving_paper(rule, None)
            self.assertEqual(paper is None, row is not None)
            for m in [None] + list(range(1, 7)):
                paper = serving_paper(rule, m)
                there = row is None or (m is not None and len(row) >= m)
                self.assertEqual(paper is not None, there, (rule, m))
                if there:
                    self.assertIs(type(paper), tuple)
                    self.assertIsNone(plain_serving_fault(rule, m, paper))
                    self.assertIsNone(judge_serving(rule, m, paper))

    def test_great_m(self):
        self.assertIsNotNone(serving_paper(K, 10 ** 20))
        self.assertIsNone(serving_paper(LATE, 10 ** 20))
        self.assertIsNone(serving_paper(LATE, 4))
        self.assertIsNotNone(serving_paper(LATE, 3))


class JudgeServing(unittest.TestCase):
    def test_form(self):
        seven = helper.fit_rule(random.Random(207), 2, 7)
        for value in helper.ANYTHING:
            self.assertEqual(judge_serving(seven, None, value), ("form",), value)
            self.assertEqual(judge_serving(seven, 2, helper.changed_at((0,) * 7, 3, value)) == ("form",),
                             not (value is None or type(value) is int and value >= 0))
        wrong = [(0,), (0, 1, 2, 3), [0, 1], (0, -1), (0, True), (False, 1), (0, "1"), (0, (1,)), (0, [1]), (0, {}), (-1, None), (0, K)]
        for value in wrong:
            self.assertEqual(judge_serving(K, None, value), ("form",), value)
            self.assertEqual(judge_serving(K, 3, value), ("form",), value)

    def test_start(self):
        for value in [(1, 0), (None, 0), (None, None), (10 ** 40, 1)]:
            self.assertEqual(judge_serving(K, None, value), ("start",))
        self.assertIsNone(judge_serving(K, None, (0, 0)))
        self.assertIsNone(judge_serving(K, None, (0, 1)))

    def test_state(self):
        self.assertEqual(judge_serving(K, None, (0, 2)), ("state", 0, 1))
        self.assertEqual(judge_serving(K, None, (0, None)), ("state", 0, 1))
        self.assertIsNone(judge_serving(LATE, 3, (0, 1, 2)))
        self.assertEqual(judge_serving(LATE, 4, (0, 1, 2)), ("state", 2, 2))
        self.assertEqual(judge_serving(LATE, None, (0, 1, 2)), ("state", 2, 2))
        self.assertEqual(judge_serving(LATE, 3, (0, 1, 1)), ("state", 2, 2))
        self.assertEqual(judge_serving(LATE, 3, (0, 1, 3)), ("state", 1, 1))
        self.assertEqual(judge_serving(APART, None, (0, 1, 7)), ("state", 2, 1))
        self.assertEqual(judge_serving(APART, 8, (0, 1, 7)), None)
        self.assertEqual(judge_serving(APART, 9, (0, 1, 7)), ("state", 2, 1))

    def test_several_at_once(self):
        self.assertEqual(judge_serving(LATE, None, (1, 5, None)), ("start",))
        self.assertEqual(judge_serving(LATE, None, (1, True, None)), ("form",))
        self.assertEqual(judge_serving(LATE, None, (0, 5, 0)), ("state", 0, 1))
        self.assertEqual(judge_serving(LATE, None, (0, 1, None)), ("state", 1, 1))
        none = (2, (((0, 0), (0, 1), (0, 1)), ((0, 0), (0, 0), (0, 0))))
        self.assertEqual(judge_serving(none, 1, (0, 1)), None)
        self.assertEqual(judge_serving(none, 2, (0, 1)), ("state", 0, 1))
        self.assertEqual(judge_serving(none, 2, (0, 3)), ("state", 0, 1))

    def test_all_small_papers_against_the_words(self):
        source = random.Random(204)
        rules = [K, APART, LATE] + [random_rule(source, 2, 3) for _ in range(8)] + [helper.fit_rule(source, 1, 3) for _ in range(4)]
        for rule in rules:
            for value in itertools.product((None, 0, 1, 2, 3), repeat=len(rule[1])):
                for m in (None, 1, 2, 3, 4):
                    self.assertEqual(judge_serving(rule, m, value), plain_serving_fault(rule, m, value), (rule, m, value))


class SightRules(unittest.TestCase):
    def test_k(self):
        rule = sight_rule(2, 1)
        for needs in helper.small_need_rows(8, 1):
            self.assertEqual(rule_row(rule, needs), rule_row(K, needs))

    def test_all_that_are_let(self):
        source = random.Random(205)
        tried = 0
        for b in range(1, 21):
            for most in range(1, 7):
                if math.comb(b + most, most) > 40:
                    continue
                tried += 1
                rule = sight_rule(b, most)
                self.assertEqual(rule[0], most)
                self.assertLessEqual(len(rule[1]), math.comb(b + most, most))
                self.assertIsNone(unmet(rule))
                rows = [tuple(source.choice((0, 0, source.randrange(most + 1))) for _ in range(60)) for _ in range(6)]
                for needs in list(short_rows(most, 4)) + rows:
                    self.assertEqual(rule_row(rule, needs), run(SightRunner(b, 0), needs, 0), (b, most, needs))
                common = math.gcd(2 * b, b + 1)
                told = (2 * b // common, (b + 1) // common)
                self.assertEqual(factor(rule, b), told)
                self.assertEqual(excess(rule, b, told[0], told[1]), 0)
                self.assertEqual(excess(rule, b, 2 * b, b + 1), 0)
        self.assertEqual(tried, 20 + 7 + 4 + 3 + 2 + 2)

    def test_they_are_rules(self):
        for b, most in [(1, 1), (20, 1), (7, 2), (4, 3), (1, 6), (2, 6)]:
            self.assertIsNone(check_rule(sight_rule(b, most)))


class Time(unittest.TestCase):
    def test_great_rules_in_good_time(self):
        begun = time.perf_counter()
        source = random.Random(206)
        for k in range(20):
            rule = helper.fit_rule(source, 6, 40)
            self.assertIsNone(unmet(rule))
            self.assertIsNone(judge_serving(rule, None, serving_paper(rule, None)))
            self.assertEqual(len(rule_row(rule, [k % 7] * 2000)), 2000)
        self.assertLess(time.perf_counter() - begun, 10)


if __name__ == "__main__":
    unittest.main()
