"""The told runners, and how they are led along rows."""

import itertools
import random
import time
import unittest

import helper
from wakedenough.runners import CallRunner, InnerRunner, LazyRunner, RowRunner, RuleRunner, SightRunner
from wakedenough.runners import inner_high, inner_low, run
from wakedenough.works import high_of, low_of

V = ((1, 2, 1, (1,)), (0, 2, 0, (1, 1)), (0, 2, 0, (1, 1)), (1, 2, 1, (1,)))
N = (2, 0, 1, 0, 0, 0, 1)
K = (1, (((0, 0), (1, 1)), ((1, 0), (1, 1))))
SIGHTS = [(b, w) for b in range(1, 6) for w in range(b)]


def random_looks(source, ticks, high, w):
    """Looks of any lengths, that need not tell of the same row."""
    return [tuple(source.randrange(high + 1) for _ in range(1 + source.randrange(w + 4))) for _ in range(ticks)]


def led(runner, looks):
    return tuple([runner.look(seen) for seen in looks])


class SightRunners(unittest.TestCase):
    def test_n(self):
        self.assertEqual(run(SightRunner(3, 0), N, 0), (2, 2, 2, 1, 1, 0, 1))

    def test_rows(self):
        for high, ticks in ((1, 8), (2, 6), (3, 4)):
            for needs in helper.small_need_rows(ticks, high):
                for b, w in SIGHTS:
                    looks = helper.looks_of(needs, w)
                    self.assertEqual(led(SightRunner(b, w), looks), helper.plain_sight(looks, b, w), (needs, b, w))

    def test_what_each_look_shows_counts(self):
        source = random.Random(31)
        for _ in range(150):
            for b, w in SIGHTS:
                looks = random_looks(source, 12, 3, w)
                self.assertEqual(led(SightRunner(b, w), looks), helper.plain_sight(looks, b, w), (looks, b, w))

    def test_looks_that_show_less_or_more(self):
        for needs in helper.small_need_rows(6, 2):
            for b, w in SIGHTS:
                for shown in (0, w + 1, w + 3):
                    looks = helper.looks_of(needs, shown)
                    self.assertEqual(led(SightRunner(b, w), looks), helper.plain_sight(looks, b, w))

    def test_only_the_first_w_after_this_tick_are_looked_at(self):
        runner = SightRunner(3, 1)
        self.assertEqual([runner.look(seen) for seen in [(2, 0, 9), (0, 0, 9), (0, 0, 9), (0, 5, 9)]], [2, 2, 0, 0])

    def test_what_was_seen_earlier_counts_no_more(self):
        runner = SightRunner(3, 2)
        self.assertEqual([runner.look(seen) for seen in [(2, 0, 2), (0, 2), (0,), (2,)]], [2, 2, 0, 2])

    def test_great_rows_in_good_time(self):
        begun = time.perf_counter()
        down = tuple(range(10 ** 6, 10 ** 6 - 5000, -1))
        for b, w in [(10 ** 6, 10 ** 6 - 1), (10 ** 6, 0), (4999, 2500), (1, 0)]:
            self.assertEqual(run(SightRunner(b, w), down, w)[0], 10 ** 6)
            self.assertEqual(run(SightRunner(b, w), down[::-1], w), down[::-1])
        self.assertEqual(run(SightRunner(10 ** 6, 0), down, 0), (10 ** 6,) * 5000)
        self.assertEqual(run(SightRunner(10 ** 6, 10 ** 6 - 1), down, 10 ** 6 - 1), down)
        self.assertLess(time.perf_counter() - begun, 30)


class LazyAndInnerRunners(unittest.TestCase):
    def check_runners(self, slots, b):
        """Hold both runners against the words of S5.5 and S5.7, tick by tick, over all rows."""
        lazy, inner = LazyRunner(b), InnerRunner(b)
        lazy_told = inner_told = 0
        for slot, worths in zip(slots, helper.plain_works(slots, b)):
            lazy_told = min(max(lazy_told, helper.plain_low(worths)), helper.plain_high(worths, b))
            inner_told = min(max(inner_told, helper.plain_inner_low(worths)), helper.plain_inner_high(worths, b))
            self.assertEqual(lazy.look((slot,)), lazy_told, (slots, b))
            self.assertEqual(inner.look((slot, (9, 9, 9, ()), None)), inner_told, (slots, b))

    def test_v(self):
        self.assertEqual(run(LazyRunner(3), V, 0), (1, 1, 1, 1))
        self.assertEqual(run(InnerRunner(3), V, 0), (1, 1, 1, 1))
        for b in (1, 2, 3, 4):
            self.check_runners(V, b)

    def test_rows_of_slots(self):
        for slots in helper.random_slot_rows(32, 120, 4):
            for b in (1, 2, 3, 7):
                self.check_runners(slots, b)

    def test_further_slots_are_not_looked_at(self):
        for make in (LazyRunner, InnerRunner):
            self.assertEqual(run(make(3), V, 0), run(make(3), V, 2))


class InnerLowAndHigh(unittest.TestCase):
    def test_some(self):
        self.assertEqual([inner_low(work) for work in [(0, 0, 0, ()), (2, 5, 1, (-1, 0, 0)), (2, 5, 1, (1, 2, 3))]], [0, 5, 2])
        self.assertEqual([inner_high((2, 5, 1, (1, 2, 3)), b) for b in (1, 2, 3, 4)], [2, 3, 4, 5])
        self.assertEqual(inner_high((7, 7, -5, ()), 1), 7)

    def test_all_small_works(self):
        for low in (0, 2):
            for wide in range(4):
                for slopes in itertools.combinations_with_replacement((-2, -1, 0, 1, 2, 3), wide):
                    work = (low, low + wide, -4, slopes)
                    worths = {x: helper.cost_of(work, x) for x in helper.numbers_of(work)}
                    self.assertEqual(inner_low(work), helper.plain_inner_low(worths))
                    for b in (1, 2, 3, 9):
                        self.assertEqual(inner_high(work, b), helper.plain_inner_high(worths, b))
                        self.assertTrue(low_of(work) <= inner_low(work) <= inner_high(work, b) <= high_of(work, b))


class OtherRunners(unittest.TestCase):
    def test_call_runner(self):
        self.assertEqual(run(CallRunner(sum), (1, 2, 3, 4), 1), (3, 5, 7, 4))
        shown = []
        runner = CallRunner(shown.append)
        self.assertIsNone(runner.look((1, 2)))
        self.assertEqual(shown, [(1, 2)])
        self.assertEqual(CallRunner(lambda seen: seen).look((V[0], V[1])), (V[0], V[1]))

    def test_rule_runner(self):
        self.assertEqual(run(RuleRunner(K), (1, 0, 0, 1), 0), (1, 1, 0, 1))
        runner = RuleRunner(K)
        self.assertEqual([runner.look(seen) for seen in [(0, 1), (1, 0, 9), (1,), (0, 7), (0,)]], [0, 1, 1, 1, 0])
        rule = (2, (((0, 0), (2, 1), (0, 2)), ((1, 2), (1, 0), (2, 1)), ((2, 2), (0, 0), (1, 1))))
        for needs in helper.small_need_rows(6, 2):
            state, told = 0, []
            for need in needs:
                told.append(rule[1][state][need][0])
                state = rule[1][state][need][1]
            self.assertEqual(run(RuleRunner(rule), needs, 0), tuple(told))

    def test_row_runner(self):
        row = [3, 1, 4]
        runner = RowRunner(row)
        row[1] = 9
        self.assertEqual(run(runner, (0, 0, 0), 0), (3, 1, 4))
        self.assertEqual(run(RowRunner((3, 1, 4)), [V[0], V[1]], 0), (3, 1))
        self.assertEqual(row, [3, 9, 4])


class Leading(unittest.TestCase):
    def test_a_runner_goes_on_where_it_stands(self):
        for needs in helper.small_need_rows(5, 2):
            for at in range(len(needs) + 1):
                runner, looks = SightRunner(4, 0), helper.looks_of(needs, 0)
                self.assertEqual(run(runner, needs[:at], 0) + run(runner, needs[at:], 0), helper.plain_sight(looks, 4, 0))
        for make in (LazyRunner, InnerRunner):
            runner = make(3)
            self.assertEqual(run(runner, V[:1], 0) + run(runner, V[1:], 0), run(make(3), V, 0))
        runner = RowRunner([1, 2, 3, 4])
        self.assertEqual([run(runner, (0, 0), 0), run(runner, (0,), 0), runner.look((0,))], [(1, 2), (3,), 4])
        runner = RuleRunner(K)
        self.assertEqual([run(runner, (1,), 0), run(runner, (0, 0), 0)], [(1,), (1, 0)])
        runner = SightRunner(3, 1)
        self.assertEqual(run(runner, (2, 0), 1) + run(runner, (0, 1), 1), (2, 2, 1, 1))

    def test_two_runners_do_not_disturb_each_other(self):
        makes = [lambda: SightRunner(4, 1), lambda: RuleRunner(K), lambda: RowRunner([1, 2, 3, 4, 5, 6])]
        for make, row in [(make, (1, 0, 0, 0, 1, 0)) for make in makes] + [(lambda: LazyRunner(3), V), (lambda: InnerRunner(3), V)]:
            one, other = make(), make()
            alone = run(make(), row, 1)
            found = []
            for t, seen in enumerate(helper.looks_of(row, 1)):
                found.append(one.look(seen))
                if t != 1:
                    other.look(seen)
            self.assertEqual(tuple(found), alone)
            self.assertEqual(run(make(), row, 1), alone)

    def test_run_looks_once_a_tick_with_a_tuple(self):
        for row in [N, list(N), V, list(V), (), []]:
            for w in (0, 1, 2, 10, 10 ** 6):
                watched = helper.Watched(CallRunner(len))
                told = run(watched, row, w)
                self.assertEqual(told, tuple(watched.told))
                self.assertIs(type(told), tuple)
                self.assertEqual(watched.looks, helper.looks_of(row, w))
                self.assertTrue(all(type(seen) is tuple for seen in watched.looks))

    def test_run_asks_nothing_of_what_is_returned(self):
        for value in helper.ANYTHING:
            self.assertEqual(run(CallRunner(lambda seen: value), (1, 2), 0), (value, value))

    def test_run_changes_no_row(self):
        row = [2, 0, 1]
        run(SightRunner(3, 1), row, 1)
        self.assertEqual(row, [2, 0, 1])


if __name__ == "__main__":
    unittest.main()
