"""Factors of rules: what they are, the papers that show them, and by how much they are exceeded."""

import copy
import fractions
import itertools
import math
import random
import time
import unittest

import helper
from helper import K
from wakedenough.errors import TooGreat
from wakedenough.factors import (
    excess, excess_paper, excess_row, factor, judge_kept, judge_met, judge_none, kept_paper, met_paper, paper_of_none,
)
from wakedenough.layers import least_by_layers
from wakedenough.places import first_place, places, size
from wakedenough.rules import rule_cost, sight_rule, unmet

# It never lets a machine go.
STAYS = (1, (((0, 0), (1, 1)), ((1, 1), (1, 1))))
# It begins by having all on, whatever is needed, and does as K behind that.
BEGINS = (1, (((1, 1), (1, 2)),) + (((0, 1), (1, 2)), ((1, 1), (1, 2))))
# It goes between two states, and starts its machine anew each other tick.
FLICKERS = (1, (((1, 1), (1, 1)), ((0, 0), (1, 0))))


class Graph:
    """The places of a rule by a plain going, and all its rings and ways, with what they cost."""

    def __init__(self, rule, b):
        self.rule, self.b = rule, b
        self.needs = range(rule[0] + 1)
        self.first = (0, 0, (b,) * rule[0])
        lead = lambda place: [helper.plain_led(rule, b, place, need)[0] for need in self.needs]
        self.ends = helper.come_to(self.first, lead)

    def price_and_growth(self, way):
        told = [helper.plain_led(self.rule, self.b, place, need) for place, need in way]
        return sum(price for _, price, _ in told), sum(growth for _, _, growth in told)

    def rings(self):
        return [self.price_and_growth(ring) for ring in helper.simple_rings(self.ends)]

    def factor(self):
        rings = self.rings()
        if any(price > 0 and growth == 0 for price, growth in rings):
            return None
        return max(fractions.Fraction(price, growth) for price, growth in rings if growth > 0)

    def excess(self, p, q):
        """The greatest q * price - p * growth of all ways of fewer ticks than there are places come to."""
        best = {self.first: 0}
        for _ in range(len(self.ends) - 1):
            late = dict(best)
            for place, total in best.items():
                for need, end in enumerate(self.ends[place]):
                    price, growth = self.price_and_growth([(place, need)])
                    more = total + q * price - p * growth
                    late[end] = max(late.get(end, more), more)
            best = late
        return max(best.values())


def gone(rule, b, place, needs):
    """Where needs lead from a place, and their prices and growths together."""
    paid = grown = 0
    for need in needs:
        place, price, growth = helper.plain_led(rule, b, place, need)
        paid, grown = paid + price, grown + growth
    return place, paid, grown


def plain_kept_fault(rule, b, p, q, value):
    """The first fault of a tuple of pairs of a place come to and an integer, by the words."""
    told = dict(value)
    for k in range(1, len(value)):
        if not value[k][0] > value[k - 1][0]:
            return ("order", k)
    if first_place(rule, b) not in told:
        return ("start",)
    for k, (place, number) in enumerate(value):
        for n in range(rule[0] + 1):
            end, price, growth = helper.plain_led(rule, b, place, n)
            if end not in told or told[end] < number + q * price - p * growth:
                return ("step", k, n)
    return None


def plain_ring_fault(rule, b, value, is_wrong_growth, is_too_small):
    """The first fault of a pair of rows of needs, by the words."""
    begin = gone(rule, b, first_place(rule, b), value[0])[0]
    end, paid, grown = gone(rule, b, begin, value[1])
    if begin != end:
        return ("ring",)
    if is_wrong_growth(grown):
        return ("growth",)
    return ("price",) if is_too_small(paid, grown) else None


def met_fault(rule, b, p, q, value):
    return plain_ring_fault(rule, b, value, lambda grown: grown == 0, lambda paid, grown: q * paid < p * grown)


def none_fault(rule, b, value):
    return plain_ring_fault(rule, b, value, lambda grown: grown != 0, lambda paid, grown: paid <= 0)


def small_rules():
    """Some rules that are not unfit with few places, and b."""
    source = random.Random(211)
    found = [(K, 1), (K, 2), (K, 3), (K, 5), (STAYS, 2), (BEGINS, 2), (BEGINS, 4), (FLICKERS, 3), (sight_rule(2, 2), 2), (sight_rule(3, 1), 3)]
    while len(found) < 130:
        most = source.choice((1, 1, 1, 2))
        rule, b = helper.fit_rule(source, most, source.randrange(1, 5)), source.randrange(1, 4 if most == 1 else 3)
        if len(places(rule, b)) <= 14:
            found.append((rule, b))
    return found


SMALL = small_rules()


class Factors(unittest.TestCase):
    def test_examples(self):
        self.assertEqual(factor(K, 2), (4, 3))
        self.assertEqual(excess(K, 2, 4, 3), 0)
        self.assertEqual(factor(K, 1), (3, 2))
        self.assertEqual(factor(K, 3), (5, 3))
        self.assertIsNone(factor(STAYS, 2))
        self.assertEqual(factor((1, (((0, 0), (1, 0)),)), 1), (1, 1))

    def test_against_all_rings(self):
        without = 0
        for rule, b in SMALL:
            told = Graph(rule, b).factor()
            found = factor(rule, b)
            without += told is None
            if told is None:
                self.assertIsNone(found, (rule, b))
            else:
                self.assertEqual(found, (told.numerator, told.denominator), (rule, b))
                self.assertIs(type(found), tuple)
        self.assertGreater(without, 5)
        self.assertLess(without, len(SMALL) - 20)

    def test_it_holds_on_rows(self):
        source = random.Random(212)
        for rule, b in SMALL:
            found = factor(rule, b)
            if found is not None:
                more = excess(rule, b, found[0], found[1])
                for _ in range(20):
                    needs = tuple(source.choice((0, source.randrange(rule[0] + 1))) for _ in range(source.randrange(25)))
                    paid, least = rule_cost(rule, b, needs), least_by_layers(needs, b)
                    self.assertLessEqual(found[1] * paid, found[0] * least + more)

    def test_papers_of_none(self):
        for rule, b in SMALL:
            paper = paper_of_none(rule, b)
            self.assertEqual(paper is None, Graph(rule, b).factor() is not None)
            if paper is not None:
                self.assertIsNone(judge_none(rule, b, paper))
                self.assertIsNone(none_fault(rule, b, paper))
                self.assertTrue(all(type(row) is tuple for row in (paper,) + paper))
                self.assertIsNone(kept_paper(rule, b, 10 ** 9, 1))
                self.assertIsNone(excess(rule, b, 10 ** 9, 1))
                self.assertIsNone(excess_paper(rule, b, 10 ** 9, 1))
                self.assertIsNone(excess_row(rule, b, 10 ** 9, 1))


def around(told):
    """Pairs of numbers, in least form or not, each with how it is to a factor: -1 below, 0 at, 1 above it."""
    p, q = told
    found = [(0, 1, -1), (0, 7, -1), (p, q, 0), (3 * p, 3 * q, 0), (p * 10 ** 6, q * 10 ** 6, 0), (p + 1, q, 1), (10 ** 9, 1, 1)]
    found += [(p * 10 ** 7 + 1, q * 10 ** 7, 1), (p * 10 ** 7 - 1, q * 10 ** 7, -1), (4 * p - 2, 4 * q, -1), (2 * p, 2 * q + 2, -1), (1, 10 ** 9, -1)]
    return found


class KeptAndMet(unittest.TestCase):
    def test_just_for_the_right_fractions(self):
        for rule, b in SMALL:
            told = factor(rule, b)
            for p, q, side in around(told) if told is not None else []:
                kept, met = kept_paper(rule, b, p, q), met_paper(rule, b, p, q)
                self.assertEqual(kept is not None, side >= 0, (rule, b, p, q))
                self.assertEqual(met is not None, side <= 0, (rule, b, p, q))
                if kept is not None:
                    self.assertIsNone(plain_kept_fault(rule, b, p, q, kept))
                    self.assertIsNone(judge_kept(rule, b, p, q, kept))
                    self.assertLessEqual({place for place, _ in kept}, set(places(rule, b)))
                    self.assertTrue(all(abs(number) < 10 ** 30 for _, number in kept))
                    self.assertIs(type(kept), tuple)
                if met is not None:
                    self.assertIsNone(met_fault(rule, b, p, q, met))
                    self.assertIsNone(judge_met(rule, b, p, q, met))
                    self.assertLessEqual(max(len(row) for row in met), 50000)

    def test_no_other_papers_are_right(self):
        for rule, b in SMALL[:60]:
            told = factor(rule, b)
            for p, q, side in around(told) if told is not None else []:
                if side > 0:
                    low = met_paper(rule, b, told[0], told[1])
                    self.assertEqual(judge_met(rule, b, p, q, low), ("price",))
                if side < 0:
                    high = kept_paper(rule, b, told[0], told[1])
                    self.assertEqual(judge_kept(rule, b, p, q, high)[0], "step")


class Excesses(unittest.TestCase):
    def test_examples(self):
        self.assertEqual(excess_row(K, 2, 4, 3), ())
        self.assertEqual(excess(BEGINS, 2, 4, 3), 3 * 3)
        self.assertEqual(excess_row(BEGINS, 2, 4, 3), (0,))
        self.assertEqual(excess(BEGINS, 2, 40, 30), 30 * 3)
        self.assertIsNone(excess(K, 2, 4 * 10 ** 6 - 1, 3 * 10 ** 6))

    def test_against_all_ways(self):
        above = 0
        for rule, b in SMALL:
            told, graph = factor(rule, b), Graph(rule, b)
            for p, q, side in around(told) if told is not None else []:
                found = excess(rule, b, p, q)
                paper, row = excess_paper(rule, b, p, q), excess_row(rule, b, p, q)
                if side < 0:
                    self.assertEqual([found, paper, row], [None, None, None])
                    continue
                self.assertEqual(found, graph.excess(p, q), (rule, b, p, q))
                above += found > 0
                self.assertLess(len(row), len(places(rule, b)))
                self.assertEqual(q * rule_cost(rule, b, row) - p * least_by_layers(row, b), found)
                self.assertIsNone(plain_kept_fault(rule, b, p, q, paper))
                self.assertIsNone(judge_kept(rule, b, p, q, paper))
                numbers = dict(paper)
                self.assertEqual(max(numbers.values()) - numbers[first_place(rule, b)], found)
        self.assertGreater(above, 50)


class JudgeKept(unittest.TestCase):
    PAPER = (((0, 0, (2,)), 0), ((0, 1, (1,)), 0), ((1, 1, (0,)), -3))

    def judge(self, value, p=4, q=3):
        return judge_kept(K, 2, p, q, value)

    def test_right_ones(self):
        self.assertIsNone(self.judge(self.PAPER))
        self.assertIsNone(self.judge(tuple((place, number + 10 ** 39) for place, number in self.PAPER)))
        self.assertEqual(plain_kept_fault(K, 2, 4, 3, self.PAPER), None)
        self.assertIsNone(self.judge(tuple((place, 2 * number) for place, number in self.PAPER), 8, 6))
        self.assertIsNone(self.judge(kept_paper(K, 2, 8, 6), 8, 6))

    def test_form(self):
        place = self.PAPER[0][0]
        for value in helper.ANYTHING:
            # What is empty is a tuple of pairs, but has no first place.
            self.assertEqual(self.judge(value), ("start",) if value == () and type(value) is tuple else ("form",), value)
            self.assertEqual(self.judge(self.PAPER[:2] + (value,)), ("form",), value)
            self.assertEqual(self.judge(self.PAPER[:2] + ((value, 0),)), ("form",), value)
            if type(value) is not int:
                self.assertEqual(self.judge(self.PAPER[:2] + ((self.PAPER[2][0], value),)), ("form",), value)
        for wrong in [(0, 0, [2]), [0, 0, (2,)], (0, False, (2,)), (True, 1, (0,)), (1, True, (0,)), (1, 1, (False,)), (0, 0, 2), (0, 0, (2, 2)), (0, 0), (0, 0, (2,), 0)]:
            self.assertEqual(self.judge(((wrong, 0),) + self.PAPER), ("form",), wrong)
        self.assertEqual(self.judge(list(self.PAPER)), ("form",))
        self.assertEqual(self.judge((list(self.PAPER[0]),)), ("form",))
        self.assertEqual(self.judge(((place, 0, 0),)), ("form",))
        self.assertEqual(self.judge({place: 0}), ("form",))

    def test_places_that_are_not_come_to(self):
        for place in [(1, 0, (2,)), (0, 0, (1,)), (2, 0, (2,)), (-1, 0, (2,)), (0, 0, (3,)), (1, 1, (1,))]:
            self.assertEqual(self.judge(tuple(sorted(self.PAPER + ((place, 0),)))), ("form",))

    def test_order(self):
        one, two, three = self.PAPER
        self.assertEqual(self.judge((two, one, three)), ("order", 1))
        self.assertEqual(self.judge((one, three, two)), ("order", 2))
        self.assertEqual(self.judge((one, one, two, three)), ("order", 1))
        self.assertEqual(self.judge((one, two, (two[0], 7), three)), ("order", 2))
        self.assertEqual(self.judge((three, two, one)), ("order", 1))

    def test_start(self):
        self.assertEqual(self.judge(()), ("start",))
        self.assertEqual(self.judge(self.PAPER[1:]), ("start",))

    def test_step(self):
        one, two, three = self.PAPER
        self.assertEqual(self.judge((one, two)), ("step", 0, 1))
        self.assertEqual(self.judge((one, three)), ("step", 1, 0))
        self.assertEqual(self.judge((one, two, (three[0], -4))), ("step", 0, 1))
        self.assertEqual(self.judge((one, (two[0], -1), three)), ("step", 2, 0))
        self.assertEqual(self.judge(((one[0], -1), two, three)), ("step", 1, 0))
        self.assertEqual(self.judge(self.PAPER, 4 * 10 ** 6 - 1, 3 * 10 ** 6), ("step", 2, 0))

    def test_several_at_once(self):
        one, two, three = self.PAPER
        self.assertEqual(self.judge((three, two)), ("order", 1))
        self.assertEqual(self.judge((two, (three[0], 10))), ("start",))
        self.assertEqual(self.judge((three, two, (one[0], True))), ("form",))
        self.assertEqual(self.judge((one, (two[0], 9), (three[0], 50))), ("step", 1, 0))

    def test_changed_papers_against_the_words(self):
        source = random.Random(213)
        faults = set()
        for rule, b in SMALL:
            told = factor(rule, b)
            if told is None:
                continue
            paper = kept_paper(rule, b, told[0], told[1])
            come_to = places(rule, b)
            for _ in range(12):
                value = list(paper)
                for _ in range(source.randrange(1, 3)):
                    at = source.randrange(len(value)) if value else 0
                    change = source.randrange(4)
                    if change == 0 and value:
                        value[at] = (value[at][0], value[at][1] + source.choice((-7, -1, 1, 2)))
                    elif change == 1 and value:
                        del value[at]
                    elif change == 2:
                        value.insert(at, (source.choice(come_to), source.randrange(-9, 9)))
                    elif value:
                        value[at] = (source.choice(come_to), value[at][1])
                fault = plain_kept_fault(rule, b, told[0], told[1], tuple(value))
                self.assertEqual(judge_kept(rule, b, told[0], told[1], tuple(value)), fault, (rule, b, value))
                faults.add(fault and fault[0])
        self.assertEqual(faults, {None, "order", "start", "step"})

    def test_unfit_rules(self):
        none = (1, (((0, 0), (0, 0)),))
        value = tuple((place, 0) for place in places(none, 2))
        self.assertIsNone(judge_kept(none, 2, 0, 1, value))
        self.assertEqual(judge_kept(none, 2, 0, 1, value[1:]), ("step", 0, 1))
        self.assertEqual(judge_kept(none, 2, 0, 1, ()), ("start",))


class JudgeMet(unittest.TestCase):
    RING = ((), (1, 0, 0))

    def judge(self, value, p=4, q=3):
        return judge_met(K, 2, p, q, value)

    def test_right_ones(self):
        self.assertIsNone(self.judge(self.RING))
        self.assertIsNone(self.judge(((1, 0), (0, 1, 0))))
        self.assertIsNone(self.judge(((0, 0), (1, 0, 0) * 50)))
        self.assertIsNone(self.judge(self.RING, 8, 6))
        self.assertIsNone(self.judge(self.RING, 0, 1))

    def test_form(self):
        for value in helper.ANYTHING:
            if value != ((1,), (1,)):
                self.assertEqual(self.judge(value), ("form",), value)
                self.assertEqual(judge_none(STAYS, 2, value), ("form",), value)
        for row in helper.ANYTHING:
            if not (type(row) is tuple and all(type(need) is int and need in (0, 1) for need in row)):
                self.assertEqual(self.judge((row, (1,))), ("form",), row)
                self.assertEqual(self.judge(((), row)), ("form",), row)
                self.assertEqual(judge_none(STAYS, 2, ((1,), row)), ("form",), row)
        wrong = [((), ()), ((2,), (0,)), ((), (0, 2)), ((), (True,)), ((False,), (0,)), ((-1,), (0,)), ([], (1, 0, 0)), ((), [1, 0, 0]), ((), (1, 0, 0), ()), [(), (1, 0, 0)]]
        for value in wrong:
            self.assertEqual(self.judge(value), ("form",), value)
            self.assertEqual(judge_none(STAYS, 2, value), ("form",), value)

    def test_ring(self):
        self.assertEqual(self.judge(((), (1, 0))), ("ring",))
        self.assertEqual(self.judge(((), (1,))), ("ring",))
        self.assertEqual(judge_none(STAYS, 2, ((), (1, 0))), ("ring",))

    def test_growth(self):
        self.assertEqual(self.judge(((), (0,))), ("growth",))
        self.assertEqual(judge_none(STAYS, 2, ((1,), (1,))), ("growth",))
        self.assertEqual(judge_none(STAYS, 2, ((1, 0), (0, 1, 0))), ("growth",))

    def test_price(self):
        self.assertEqual(self.judge(((1,), (1,))), ("price",))
        self.assertEqual(self.judge(self.RING, 4 * 10 ** 6 + 1, 3 * 10 ** 6), ("price",))
        self.assertEqual(judge_none(STAYS, 2, ((), (0,))), ("price",))
        self.assertIsNone(judge_none(STAYS, 2, ((1, 0, 0), (0,))))
        self.assertEqual(judge_none(K, 2, ((1, 0, 0), (0,))), ("price",))

    def test_several_at_once(self):
        self.assertEqual(self.judge(((2,), (1, 0))), ("form",))
        self.assertEqual(self.judge(((1,), (0,))), ("ring",))
        self.assertEqual(self.judge(((), (0,)), 10 ** 9, 1), ("growth",))
        self.assertEqual(judge_none(STAYS, 2, ((0,), (1,))), ("ring",))

    def test_all_short_pairs_against_the_words(self):
        for rule, b in [(K, 2), (STAYS, 1), (FLICKERS, 2), (BEGINS, 2), SMALL[20], SMALL[50], ((1, (((0, 0), (0, 0)),)), 2)]:
            rows = list(helper.small_need_rows(4, 1))
            for value in itertools.product(rows, rows[1:]):
                self.assertEqual(judge_met(rule, b, 4, 3, value), met_fault(rule, b, 4, 3, value), (rule, b, value))
                self.assertEqual(judge_none(rule, b, value), none_fault(rule, b, value), (rule, b, value))


class Greatness(unittest.TestCase):
    def test_too_great(self):
        source = random.Random(214)
        bad = (1, (((0, 0), (0, 0)),) * 40)
        for rule, b in [(bad, 250), (helper.fit_rule(source, 6, 1), 8), (helper.fit_rule(source, 6, 40), 20)]:
            self.assertGreater(size(rule, b), 20000)
            calls = [lambda: factor(rule, b), lambda: paper_of_none(rule, b), lambda: kept_paper(rule, b, 1, 1), lambda: met_paper(rule, b, 1, 1),
                     lambda: judge_kept(rule, b, 1, 1, "a"), lambda: judge_met(rule, b, 1, 1, [[1]]), lambda: judge_none(rule, b, None),
                     lambda: excess(rule, b, 1, 1), lambda: excess_paper(rule, b, 1, 1), lambda: excess_row(rule, b, 1, 1)]
            for call in calls:
                self.assertRaises(TooGreat, call)

    def check_great(self, rule, b):
        self.assertIsNone(unmet(rule))
        told = factor(rule, b)
        if told is None:
            self.assertIsNone(judge_none(rule, b, paper_of_none(rule, b)))
            return
        p, q = told
        self.assertIsNone(judge_kept(rule, b, p, q, kept_paper(rule, b, p, q)))
        self.assertIsNone(judge_met(rule, b, p, q, met_paper(rule, b, p, q)))
        more, row = excess(rule, b, p, q), excess_row(rule, b, p, q)
        self.assertEqual(q * rule_cost(rule, b, row) - p * least_by_layers(row, b), more)
        many = 10 ** 9 // p
        self.assertIsNone(kept_paper(rule, b, p * many - 1, q * many))
        self.assertIsNone(met_paper(rule, b, p * many + 1, q * many))
        high = excess_paper(rule, b, p * many + 1, q * many)
        self.assertIsNone(judge_kept(rule, b, p * many + 1, q * many, high))
        self.assertTrue(all(abs(number) < 10 ** 30 for _, number in high))

    def test_great_rules_in_good_time(self):
        begun = time.perf_counter()
        source = random.Random(215)
        for most, states, b in [(1, 40, 20), (2, 28, 20), (2, 40, 16), (3, 2, 20), (6, 1, 7), (6, 6, 5), (5, 13, 5), (4, 40, 4), (6, 40, 2)]:
            for stops in (0.5, 1):
                self.check_great(helper.fit_rule(source, most, states, stops), b)
        self.assertLess(time.perf_counter() - begun, 40)

    def test_long_ways_in_good_time(self):
        begun = time.perf_counter()
        # Rules whose states stand in a long row: from one to the next by one need, and back by all others.
        for most, states, b in [(1, 40, 20), (2, 28, 20), (2, 40, 16), (4, 40, 4)]:
            self.assertLessEqual(size((most, (((0, 0),) * (most + 1),) * states), b), 20000)
            for on in (0, 1):
                rows = [tuple((max(need, most * on if s % 3 else need), (s + 1) % states if need == s % (most + 1) else max(0, s - need))
                              for need in range(most + 1)) for s in range(states)]
                self.check_great((most, tuple(rows)), b)
        self.assertLess(time.perf_counter() - begun, 40)

    def test_just_as_great_as_may_be(self):
        rule = helper.fit_rule(random.Random(216), 1, 40)
        self.assertEqual(size(rule, 249), 20000)
        self.check_great(rule, 249)
        rule = helper.fit_rule(random.Random(217), 3, 5, 1)
        self.assertEqual(size(rule, 16), 19380)
        self.check_great(rule, 16)


class Sights(unittest.TestCase):
    def test_none_pays_less(self):
        # S5.4 and S6: no rule has a lesser factor than the sight runner's, in which nothing is seen ahead.
        for rule, b in SMALL:
            told = factor(rule, b)
            if told is not None:
                self.assertGreaterEqual(told[0] * (b + 1), told[1] * 2 * b)
                self.assertEqual(math.gcd(told[0], told[1]), 1)

    def test_nothing_is_changed(self):
        rule, paper = copy.deepcopy(BEGINS), kept_paper(BEGINS, 2, 4, 3)
        kept = copy.deepcopy(paper)
        judge_kept(rule, 2, 4, 3, paper)
        self.assertEqual((rule, paper), (BEGINS, kept))


if __name__ == "__main__":
    unittest.main()
