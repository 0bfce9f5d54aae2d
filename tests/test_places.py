"""Places of rules, and the least costs by steps."""

import itertools
import random
import time
import unittest

import helper
from helper import K, random_rule, rising, rule_fleet
from wakedenough.errors import TooGreat
from wakedenough.layers import least_by_layers
from wakedenough.places import first_place, least_by_steps, led, places, ready_steps, size

UNFIT = (2, (((0, 1), (0, 0), (1, 1)), ((2, 0), (1, 1), (0, 1))))


def plain_steps(b, most, needs):
    """The steps by the words of S7.2, by going over all fleet rows up to most; and the least cost."""
    ready = []
    for x in range(most + 1):
        costs = [helper.need_row_cost(row, b) + b * max(0, x - (row[-1] if row else 0))
                 for row in itertools.product(*[range(need, most + 1) for need in needs])]
        ready.append(min(costs))
    return tuple(late - early for early, late in zip(ready, ready[1:])), ready[0]


class Sizes(unittest.TestCase):
    def test_k(self):
        self.assertEqual(size(K, 2), 12)
        self.assertEqual([size(K, b) for b in (1, 3, 20)], [8, 16, 84])

    def test_some(self):
        source = random.Random(81)
        for most in range(1, 7):
            for states in (1, 2, 5, 40):
                rule = random_rule(source, most, states)
                for b in (1, 2, 4):
                    self.assertEqual(size(rule, b), states * (most + 1) * len(rising(most, b)))
        self.assertEqual(size(random_rule(source, 6, 40), 20), 40 * 7 * 230230)


class Steps(unittest.TestCase):
    def test_k(self):
        self.assertEqual([ready_steps(2, 1, needs) for needs in [(), (1,), (1, 0), (1, 0, 0)]], [(2,), (0,), (1,), (2,)])

    def test_against_all_rows(self):
        for most, ticks in ((1, 5), (2, 4), (3, 3)):
            for needs in helper.small_need_rows(ticks, most):
                for b in (1, 2, 3, 9):
                    steps, least = plain_steps(b, most, needs)
                    self.assertEqual(ready_steps(b, most, needs), steps, (b, most, needs))
                    self.assertEqual(least_by_steps(b, needs), least, (b, needs))

    def test_a_greater_most_settles_nothing_below(self):
        for needs in helper.small_need_rows(4, 2):
            self.assertEqual(ready_steps(3, 5, needs)[:2], ready_steps(3, 2, needs))

    def test_they_never_fall(self):
        source = random.Random(82)
        for _ in range(50):
            needs = [source.randrange(7) for _ in range(30)]
            steps = ready_steps(6, 6, needs)
            self.assertIn(steps, rising(6, 6))
            self.assertIs(type(steps), tuple)

    def test_no_needs(self):
        self.assertEqual(ready_steps(7, 3, ()), (7, 7, 7))
        self.assertEqual([least_by_steps(7, needs) for needs in [(), [], (0,), (0, 0), (2,)]], [0, 0, 0, 0, 16])

    def test_lists(self):
        self.assertEqual(ready_steps(2, 1, [1, 0]), (1,))
        self.assertEqual(least_by_steps(2, [1, 0, 0, 1]), least_by_steps(2, (1, 0, 0, 1)))

    def test_long_rows_in_good_time(self):
        begun = time.perf_counter()
        source = random.Random(83)
        rows = [[source.randrange(101) for _ in range(2000)], (100, 0) * 1000, [99] * 2000, (100,) + (0,) * 1999]
        for needs in rows:
            for b in (1, 30, 10 ** 9):
                self.assertEqual(least_by_steps(b, needs), least_by_layers(tuple(needs), b))
                self.assertEqual(len(ready_steps(b, 100, needs)), 100)
        self.assertEqual(ready_steps(10 ** 9, 2, (1,) + (0,) * 1999), (1999, 10 ** 9))
        self.assertLess(time.perf_counter() - begun, 20)


class Places(unittest.TestCase):
    def test_k(self):
        self.assertEqual(first_place(K, 2), (0, 0, (2,)))
        self.assertEqual(led(K, 2, (0, 0, (2,)), 1), ((1, 1, (0,)), 3, 3))
        self.assertEqual(led(K, 2, (1, 1, (0,)), 0), ((0, 1, (1,)), 1, 0))
        self.assertEqual(led(K, 2, (0, 1, (1,)), 0), ((0, 0, (2,)), 0, 0))
        self.assertEqual(led(K, 2, (0, 0, (2,)), 0), ((0, 0, (2,)), 0, 0))
        self.assertEqual(led(K, 2, (0, 1, (1,)), 1), ((1, 1, (0,)), 1, 2))
        self.assertEqual(led(K, 2, (1, 1, (0,)), 1), ((1, 1, (0,)), 1, 1))
        self.assertEqual(places(K, 2), [(0, 0, (2,)), (0, 1, (1,)), (1, 1, (0,))])

    def test_what_k_costs(self):
        place, prices, growths = first_place(K, 2), [], []
        for need in (1, 0, 0, 1):
            place, price, growth = led(K, 2, place, need)
            prices.append(price)
            growths.append(growth)
        self.assertEqual([prices, growths], [[3, 1, 0, 3], [3, 0, 0, 3]])
        self.assertEqual([sum(prices), sum(growths)], [3 + 4, least_by_steps(2, (1, 0, 0, 1))])

    def test_first_places(self):
        self.assertEqual(first_place(UNFIT, 5), (0, 0, (5, 5)))
        self.assertEqual(first_place(random_rule(random.Random(84), 6, 3), 1), (0, 0, (1,) * 6))

    def check_rule(self, rule, b, ticks):
        """Go along all need rows with so many ticks: prices and growths are costs; and hold the places come to."""
        met = {first_place(rule, b)}
        for needs in itertools.product(range(rule[0] + 1), repeat=ticks):
            place, paid, grown = first_place(rule, b), 0, 0
            for t, need in enumerate(needs):
                place, price, growth = led(rule, b, place, need)
                paid, grown = paid + price, grown + growth
                row = rule_fleet(rule, needs[:t + 1])
                self.assertEqual(place, (rule[1][place_before(rule, needs, t)][need][1], row[-1], ready_steps(b, rule[0], needs[:t + 1])))
                self.assertEqual(paid, helper.need_row_cost(row, b))
                self.assertEqual(grown, least_by_layers(needs[:t + 1], b))
                met.add(place)
        return met

    def test_prices_and_growths_add_up(self):
        source = random.Random(85)
        for most, states, ticks in ((1, 1, 5), (1, 3, 6), (2, 2, 4), (3, 4, 3)):
            for b in (1, 2, 3):
                rule = random_rule(source, most, states)
                found = places(rule, b)
                self.assertLessEqual(self.check_rule(rule, b, ticks), set(found))
        self.assertEqual(sorted(self.check_rule(K, 2, 5)), places(K, 2))
        self.check_rule(UNFIT, 3, 4)

    def test_places_come_to(self):
        source = random.Random(86)
        for k in range(40):
            rule = random_rule(source, 1 + k % 3, 1 + k % 4)
            b = 1 + k % 5
            found = places(rule, b)
            self.assertEqual(found, sorted(set(found)))
            self.assertLessEqual(len(found), size(rule, b))
            come_to, new = {first_place(rule, b)}, [first_place(rule, b)]
            while new:
                place = new.pop()
                for need in range(rule[0] + 1):
                    state, on, steps = place
                    x, late = rule[1][state][need]
                    behind = (late, x, (0,) * need + tuple(min(b, step + 1) for step in steps[need:]))
                    if behind not in come_to:
                        come_to.add(behind)
                        new.append(behind)
            self.assertEqual(found, sorted(come_to))
            self.assertIs(type(found), list)

    def test_places_that_are_not_come_to(self):
        self.assertEqual(led(K, 2, (1, 0, (1,)), 0), ((0, 1, (2,)), 3, 0))
        self.assertEqual(led(UNFIT, 3, (1, 2, (1, 3)), 0), ((0, 2, (2, 3)), 2, 0))
        self.assertEqual(led(UNFIT, 3, (1, 0, (1, 2)), 2), ((1, 0, (0, 0)), 0, 2 + 3))

    def test_the_list_is_new(self):
        places(K, 2).append(0)
        self.assertEqual(len(places(K, 2)), 3)


class Greatness(unittest.TestCase):
    def test_just_as_great_as_may_be(self):
        rule = random_rule(random.Random(87), 1, 40)
        self.assertEqual(size(rule, 249), 20000)
        self.assertEqual(first_place(rule, 249), (0, 0, (249,)))
        self.assertEqual(led(rule, 249, (0, 0, (249,)), 0)[2], 0)
        self.assertLessEqual(len(places(rule, 249)), 20000)

    def test_too_great(self):
        source = random.Random(88)
        for rule, b in [(random_rule(source, 1, 40), 250), (random_rule(source, 6, 1), 9), (random_rule(source, 6, 40), 20)]:
            self.assertGreater(size(rule, b), 20000)
            for call in [lambda: first_place(rule, b), lambda: led(rule, b, first_place(K, 2), 0), lambda: places(rule, b),
                         lambda: led(rule, b, (10 ** 9, -1, ()), 99)]:
                with self.assertRaises(TooGreat):
                    call()
        self.assertEqual([size((6, (((0, 0),) * 7,)), b) for b in (7, 8)], [12012, 21021])
        self.assertEqual(first_place((6, (((0, 0),) * 7,)), 7), (0, 0, (7,) * 6))
        self.assertRaises(TooGreat, first_place, (6, (((0, 0),) * 7,)), 8)

    def test_great_rules_in_good_time(self):
        begun = time.perf_counter()
        source = random.Random(89)
        for most, states, b in [(1, 40, 249), (2, 28, 20), (3, 2, 20), (6, 1, 7), (6, 3, 5), (5, 13, 5)]:
            rule = random_rule(source, most, states)
            self.assertLessEqual(size(rule, b), 20000)
            found = places(rule, b)
            self.assertEqual(found, sorted(found))
        self.assertLess(time.perf_counter() - begun, 40)


def place_before(rule, needs, t):
    """The state at which a rule is at a tick."""
    state = 0
    for need in needs[:t]:
        state = rule[1][state][need][1]
    return state


if __name__ == "__main__":
    unittest.main()
