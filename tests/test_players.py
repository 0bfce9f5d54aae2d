"""Players: the plays that they make against runners, and how long these have to be."""

import fractions
import itertools
import time
import unittest

import helper
from wakedenough.errors import NotServed
from wakedenough.players import laps_for, play_needs, play_slots, ticks_for
from wakedenough.plays import is_beaten, need_costs, slot_costs
from wakedenough.runners import CallRunner, InnerRunner, LazyRunner, RowRunner, RuleRunner, SightRunner

SIGHTS = [(b, w) for b in range(1, 5) for w in range(b)]
EARNS, COSTS = helper.EARNS, helper.COSTS
K = (1, (((0, 0), (1, 1)), ((1, 0), (1, 1))))


class Stayer:
    """A runner that stays on for some ticks behind a need, or comes on again when it sees one."""

    def __init__(self, ticks, ahead=False):
        self.ticks = ticks
        self.ahead = ahead
        self.idle = ticks

    def look(self, seen):
        self.idle = 0 if seen[0] else self.idle + 1
        if self.ahead and 1 in seen[1:2]:
            return 1
        return 1 if self.idle <= self.ticks else 0


class Broken:
    """A runner that serves by another one up to a tick, and then returns a told value."""

    def __init__(self, runner, tick, value):
        self.runner, self.left, self.value = runner, tick, value

    def look(self, seen):
        self.left -= 1
        return self.runner.look(seen) if self.left >= 0 else self.value


def need_runners(b, w):
    """Makers of runners of all sorts that serve needs of 0 and 1."""
    makes = [lambda: CallRunner(lambda seen: seen[0]), lambda: CallRunner(lambda seen: 1), lambda: CallRunner(max),
             lambda: CallRunner(lambda seen: 3), lambda: SightRunner(b, w), lambda: RuleRunner(K), lambda: RowRunner([1] * 6000)]
    makes += [lambda k=k: Stayer(k) for k in range(b + 2)] + [lambda k=k: Stayer(k, True) for k in range(b + 1)]
    return makes + [lambda k=k: helper.Script([1, 0, 1, 2, 0, 0, 1] * k) for k in range(4)]


def needs_by_words(b, w, laps, answers):
    """The whole row of the player of needs for what a runner returned, by the words of S6.2; whether the second case came."""
    needs = [1]
    s = 0
    while True:
        off = next((t for t in range(s + 1, s + b - w + 1) if answers[t] == 0), None)
        t = s + b - w if off is None else off
        needs += [0] * (t + w + 1 - len(needs))
        if off is None or sum(needs) == laps:
            return tuple(needs), off is None
        s = t + w + 1
        needs.append(1)


class NeedPlays(unittest.TestCase):
    def check_play(self, b, w, laps, make):
        """Hold a play, and what the runner sees in it, against the words of S6.2."""
        watched = helper.Watched(make())
        needs, row = play_needs(b, w, laps, watched)
        self.assertEqual([type(needs), type(row)], [tuple, tuple])
        self.assertEqual(row, tuple(watched.told))
        expected, second = needs_by_words(b, w, laps, row)
        self.assertEqual(needs, expected, (b, w, laps, row))
        self.assertEqual(watched.looks, helper.looks_of(needs, w))
        self.assertTrue(all(type(seen) is tuple for seen in watched.looks))
        self.assertLessEqual(len(needs), laps * (b + 1))
        paid, least = need_costs(b, (needs, row))
        self.assertGreaterEqual(paid * (b + 1), (2 * b - w) * least - (b + 1) * (b - 1 - w))
        if second:
            self.assertGreater(paid * (b + 1), (2 * b - w) * least)
        return needs, row

    def test_the_examples(self):
        self.assertEqual(play_needs(3, 1, 2, CallRunner(lambda seen: seen[0])), ((1, 0, 0, 1, 0, 0), (1, 0, 0, 1, 0, 0)))
        self.assertEqual(play_needs(3, 1, 2, CallRunner(lambda seen: 1)), ((1, 0, 0, 0), (1, 1, 1, 1)))

    def test_runners_of_all_sorts(self):
        for b, w in SIGHTS + [(7, 0), (7, 3), (7, 6)]:
            for laps in (1, 2, 3, 8):
                for make in need_runners(b, w):
                    self.check_play(b, w, laps, make)

    def test_all_scripts(self):
        for b, w in SIGHTS[:6] + [(4, 2)]:
            for laps in (1, 2):
                for script in itertools.product((0, 1), repeat=min(laps * (b + 1), 8)):
                    self.check_play(b, w, laps, lambda: helper.Script(script))

    def test_one_lap(self):
        self.assertEqual(play_needs(1, 0, 1, CallRunner(lambda seen: seen[0])), ((1, 0), (1, 0)))
        self.assertEqual(play_needs(1, 0, 1, CallRunner(lambda seen: 1)), ((1, 0), (1, 1)))
        self.assertEqual(play_needs(4, 3, 1, CallRunner(lambda seen: seen[0])), ((1, 0, 0, 0, 0), (1, 0, 0, 0, 0)))

    def test_what_is_returned_behind_t_settles_nothing(self):
        answers = [1, 0, 1, 1, 1, 0, 5, 5]
        self.assertEqual(play_needs(3, 2, 2, helper.Script(answers)), ((1, 0, 0, 0, 1, 0, 0, 0), (1, 0, 1, 1, 1, 0, 5, 5)))

    def test_off_at_the_last_tick_that_counts(self):
        self.assertEqual(play_needs(3, 0, 2, helper.Script([1, 1, 1, 0, 1, 0]))[0], (1, 0, 0, 0, 1, 0))
        self.assertEqual(play_needs(3, 0, 2, helper.Script([1, 1, 1, 1, 1, 0]))[0], (1, 0, 0, 0))

    def test_the_runner_is_led_on(self):
        runner = RowRunner([1, 0, 7, 8])
        play_needs(1, 0, 1, runner)
        self.assertEqual(runner.look((0,)), 7)

    def test_long_plays_in_good_time(self):
        begun = time.perf_counter()
        self.assertEqual(len(play_needs(9, 0, 500, Stayer(8))[0]), 5000)
        self.assertEqual(len(play_needs(10 ** 6, 4998, 1, CallRunner(lambda seen: seen[0]))[0]), 5000)
        self.assertEqual(len(play_needs(10 ** 6, 0, 2500, CallRunner(lambda seen: seen[0]))[0]), 5000)
        self.check_play(2500, 1200, 3, lambda: Stayer(1000))
        self.assertLess(time.perf_counter() - begun, 20)


class SlotPlays(unittest.TestCase):
    def check_play(self, b, ticks, make):
        """Hold a play, and what the runner sees in it, against the words of S6.4."""
        watched = helper.Watched(make())
        slots, row = play_slots(b, ticks, watched)
        self.assertEqual([type(slots), type(row)], [tuple, tuple])
        self.assertEqual(row, tuple(watched.told))
        self.assertEqual(len(row), ticks)
        self.assertEqual(slots, tuple(COSTS if before else EARNS for before in (0,) + row[:-1]))
        self.assertEqual(watched.looks, [(slot,) for slot in slots])
        self.assertTrue(all(type(seen) is tuple for seen in watched.looks))
        paid, least = slot_costs(b, (slots, row))
        self.assertGreaterEqual(b * paid, (3 * b - 2) * least - 2 * b * (b - 1))
        self.assertGreaterEqual(2 * paid, ticks)
        return slots, row

    def test_runners_of_all_sorts(self):
        for b in range(1, 6):
            for ticks in (1, 2, 5, 30):
                for make in [lambda: CallRunner(lambda seen: 0), lambda: CallRunner(lambda seen: 1), lambda: LazyRunner(b),
                             lambda: InnerRunner(b), lambda: CallRunner(lambda seen: seen[0][2]), lambda: RowRunner([0, 0, 1, 1, 0] * 6)]:
                    self.check_play(b, ticks, make)

    def test_all_scripts(self):
        for script in itertools.product((0, 1), repeat=7):
            for b in (1, 2, 3):
                self.assertEqual(self.check_play(b, 7, lambda: RowRunner(script))[1], script)

    def test_some(self):
        self.assertEqual(play_slots(3, 4, RowRunner([1, 0, 1, 0])), ((EARNS, COSTS, EARNS, COSTS), (1, 0, 1, 0)))
        self.assertEqual(play_slots(1, 1, RowRunner([0])), ((EARNS,), (0,)))

    def test_long_plays_in_good_time(self):
        begun = time.perf_counter()
        for b in (1, 7, 10 ** 6):
            for make in (LazyRunner, InnerRunner):
                self.check_play(b, 300, lambda: make(b))
        self.assertLess(time.perf_counter() - begun, 10)


class NotServedErrors(unittest.TestCase):
    wrong = [True, False, None, "1", "", [1], [], (1,), {}, fractions.Fraction(1), 1.0, -1, -10 ** 40]

    def check_raised(self, tick, play, *told):
        with self.assertRaises(NotServed) as caught:
            play(*told)
        self.assertEqual(caught.exception.tick, tick)

    def test_needs(self):
        served = ((1, 0, 0, 1, 0, 0), (1, 0, 0, 1, 0, 0))
        self.assertEqual(play_needs(3, 1, 2, CallRunner(lambda seen: seen[0])), served)
        for tick in range(6):
            for value in self.wrong + helper.ANYTHING:
                if type(value) is not int or value < served[0][tick]:
                    self.check_raised(tick, play_needs, 3, 1, 2, Broken(CallRunner(lambda seen: seen[0]), tick, value))
        for tick in (0, 3):
            self.check_raised(tick, play_needs, 3, 1, 2, Broken(CallRunner(lambda seen: seen[0]), tick, 0))
        self.assertEqual(play_needs(3, 1, 2, Broken(CallRunner(lambda seen: seen[0]), 4, 10 ** 40))[1], (1, 0, 0, 1) + (10 ** 40,) * 3)

    def test_slots(self):
        for tick in range(4):
            for value in self.wrong + [2, 10 ** 40] + helper.ANYTHING:
                if type(value) is not int or value not in (0, 1):
                    self.check_raised(tick, play_slots, 3, 4, Broken(CallRunner(lambda seen: 1), tick, value))
        self.assertEqual(play_slots(3, 2, Broken(CallRunner(lambda seen: 1), 2, None))[1], (1, 1))


class Lengths(unittest.TestCase):
    def test_the_examples(self):
        self.assertEqual(laps_for(3, 1, (6, 5)), 21)
        self.assertEqual(ticks_for(3, (2, 1)), 49)

    def test_some(self):
        self.assertEqual(laps_for(1, 0, (0, 1)), 1)
        self.assertEqual(laps_for(3, 2, (99, 100)), 1)
        self.assertEqual(laps_for(2, 0, (1, 1)), 1 + 3 // 1)
        self.assertEqual(laps_for(3, 0, (1, 2)), 1 + 4 * 2 * 2 // (12 - 4))
        self.assertEqual(laps_for(3, 0, (2, 4)), 1 + 4 * 2 * 4 // (24 - 8))
        self.assertEqual(laps_for(3, 0, (0, 7)), 1 + 4 * 2 * 7 // 42)
        self.assertEqual(ticks_for(1, (99, 100)), 1)
        self.assertEqual(ticks_for(5, (0, 1)), 1)
        self.assertEqual(ticks_for(2, (3, 2)), 1 + 2 * 3 * (8 // 2) // 2)
        self.assertEqual(ticks_for(2, (1, 3)), 1 + 2 * (12 // 10) // 3)

    def test_great_ones(self):
        b, q = 10 ** 6, 10 ** 9 - 1
        p = (2 * b * q - 1) // (b + 1)
        less = 2 * b * q - (b + 1) * p
        self.assertEqual(laps_for(b, 0, (p, q)), 1 + (b + 1) * (b - 1) * q // less)
        p = ((3 * b - 2) * 10 ** 8 - 1) // b
        less = (3 * b - 2) * 10 ** 8 - b * p
        m = 2 * b * (b - 1) * 10 ** 8 // less
        self.assertEqual(ticks_for(b, (p, 10 ** 8)), 1 + 2 * p * m // 10 ** 8)

    def test_with_so_many_laps_each_runner_pays_more(self):
        for b, w in SIGHTS:
            for q in (1, 2, 5, 30):
                for p in range(((2 * b - w) * q - 1) // (b + 1) + 1):
                    laps = laps_for(b, w, (p, q))
                    self.assertGreaterEqual(laps, 1)
                    if p < 3 or p % 7 == 0 or laps > 20:
                        for make in need_runners(b, w):
                            for more in (laps, laps + 1, laps + 10):
                                costs = need_costs(b, play_needs(b, w, more, make()))
                                self.assertTrue(is_beaten((p, q), costs), (b, w, p, q, costs))

    def test_with_so_many_ticks_each_runner_pays_more(self):
        for b in range(1, 5):
            for factor in [(0, 1), (1, 2), (99, 100), (1, 1), (3, 2), (9, 5), (2, 1), (9, 4)]:
                if factor[0] * b < (3 * b - 2) * factor[1]:
                    ticks = ticks_for(b, factor)
                    makes = [lambda: LazyRunner(b), lambda: InnerRunner(b), lambda: CallRunner(lambda seen: 0),
                             lambda: CallRunner(lambda seen: 1), lambda: RowRunner([1, 0, 0] * ticks + [0] * 9)]
                    for make in makes:
                        for more in (ticks, ticks + 1, ticks + 9):
                            if more <= 400:
                                self.assertTrue(is_beaten(factor, slot_costs(b, play_slots(b, more, make()))), (b, factor))


if __name__ == "__main__":
    unittest.main()
