"""Plays: the first faults of what should be some, and what they cost."""

import itertools
import random
import time
import unittest

import helper
from wakedenough.players import play_needs, play_slots
from wakedenough.plays import is_beaten, judge_need_play, judge_slot_play, need_costs, need_gain
from wakedenough.plays import slot_account, slot_costs, slot_gain
from wakedenough.runners import CallRunner, InnerRunner, LazyRunner, RowRunner, SightRunner

EARNS, COSTS = helper.EARNS, helper.COSTS
NEEDS = (1, 0, 0, 1, 0, 0)
PLAY = (NEEDS, NEEDS)
SLOT_PLAY = ((EARNS, COSTS, EARNS, COSTS), (1, 0, 1, 0))


def told_need(b, w, laps, answers, t):
    """The need of the tick t by what was returned ahead of t - w, or None if the row has ended ahead of t; by S6.2."""
    if t == 0:
        return 1
    s, made = 0, 1
    while True:
        known = range(s + 1, min(s + b - w, t - w - 1) + 1)
        offs = [u for u in known if answers[u] == 0]
        if not offs and s + b - w not in known:
            return 0
        end = (offs[0] if offs else s + b - w) + w
        if t <= end:
            return 0
        if not offs or made == laps:
            return None
        s, made = end + 1, made + 1
        if t == s:
            return 1


def need_fault(b, w, laps, needs, row):
    """The first fault of two tuples of integers, as many, by the words of S6.6."""
    for t in range(len(row)):
        if needs[t] != told_need(b, w, laps, row, t):
            return ("need", t)
        if row[t] < needs[t]:
            return ("served", t)
    return None if told_need(b, w, laps, row, len(row)) is None else ("end",)


def slot_fault(ticks, slots, row):
    for t in range(len(row)):
        if t >= ticks or slots[t] != (COSTS if t > 0 and row[t - 1] == 1 else EARNS):
            return ("slot", t)
        if row[t] not in (0, 1):
            return ("served", t)
    return None if len(row) == ticks else ("end",)


class NeedPlays(unittest.TestCase):
    def judge(self, needs, row, laps=2):
        return judge_need_play(3, 1, laps, (needs, row))

    def test_plays_that_are_some(self):
        self.assertIsNone(judge_need_play(3, 1, 2, PLAY))
        self.assertIsNone(judge_need_play(3, 1, 2, ((1, 0, 0, 0), (1, 1, 1, 1))))
        self.assertIsNone(judge_need_play(3, 1, 1, ((1, 0, 0), (10 ** 40, 0, 7))))
        for b in range(1, 6):
            for w in range(b):
                for laps in (1, 2, 5):
                    for runner in [SightRunner(b, w), CallRunner(lambda seen: seen[0]), CallRunner(lambda seen: 1),
                                   helper.Script([2, 1, 0, 1] * 9)]:
                        self.assertIsNone(judge_need_play(b, w, laps, play_needs(b, w, laps, runner)))

    def test_form(self):
        wrong = [list(PLAY), (list(NEEDS), NEEDS), (NEEDS, list(NEEDS)), (NEEDS,), PLAY + ((),), (NEEDS, NEEDS[:5]),
                 (NEEDS[:5], NEEDS), NEEDS, ((), NEEDS), {0: NEEDS}, CallRunner(len)]
        for value in wrong + [value for value in helper.ANYTHING if value not in [((), ()), ((1,), (1,))]]:
            self.assertEqual(judge_need_play(3, 1, 2, value), ("form",), value)

    def test_need(self):
        for t in range(6):
            self.assertEqual(self.judge(helper.changed_at(NEEDS, t, 1 - NEEDS[t]), NEEDS), ("need", t))
            self.assertEqual(self.judge(helper.changed_at(NEEDS, t, 2), NEEDS), ("need", t))
            for value in [value for value in helper.ANYTHING if type(value) is not int or value != NEEDS[t]]:
                self.assertEqual(self.judge(helper.changed_at(NEEDS, t, value), NEEDS), ("need", t))
            self.assertEqual(self.judge(helper.changed_at(NEEDS, t, bool(NEEDS[t])), NEEDS), ("need", t))
            self.assertEqual(self.judge(helper.changed_at(NEEDS, t, SightRunner(3, 1)), NEEDS), ("need", t))

    def test_longer(self):
        self.assertEqual(self.judge(NEEDS + (0,), NEEDS + (0,)), ("need", 6))
        self.assertEqual(self.judge(NEEDS + (1, 0), NEEDS + (1, 0)), ("need", 6))
        self.assertEqual(self.judge((1, 0, 0, 0, 0), (1,) * 5), ("need", 4))

    def test_served(self):
        for t in range(6):
            for value in [value for value in helper.ANYTHING if type(value) is not int or value < NEEDS[t]]:
                self.assertEqual(self.judge(NEEDS, helper.changed_at(NEEDS, t, value)), ("served", t))
        self.assertEqual(self.judge(NEEDS, (True,) + NEEDS[1:]), ("served", 0))
        self.assertEqual(self.judge(NEEDS, (1, 0, 0, 1, False, 0)), ("served", 4))
        self.assertEqual(self.judge(NEEDS, (1, 0, 0, 0, 0, 0)), ("served", 3))

    def test_end(self):
        for many in range(6):
            self.assertEqual(self.judge(NEEDS[:many], NEEDS[:many]), ("end",))
        self.assertEqual(judge_need_play(1, 0, 1, ((), ())), ("end",))
        self.assertEqual(judge_need_play(10 ** 6, 10 ** 6 - 1, 1, ((), ())), ("end",))
        self.assertEqual(judge_need_play(3, 1, 2, ((1,), (1,))), ("end",))

    def test_the_first_of_several(self):
        self.assertEqual(self.judge((1, 1, 0, 1, 0, 0), (0, 0, 0, 1, 0, 0)), ("served", 0))
        self.assertEqual(self.judge((1, 1, 0, 1, 0, 0), (1, None, 0, 1, 0, 0)), ("need", 1))
        self.assertEqual(self.judge((1, 0, 0), (1, 0, -1)), ("served", 2))
        self.assertEqual(self.judge((None,), (None,)), ("need", 0))
        self.assertEqual(self.judge((1, 0, 0, None), (1, 0, 0, None)), ("need", 3))

    def test_plays_of_other_numbers(self):
        for b, w, laps in itertools.product(range(1, 5), range(4), (1, 2, 3)):
            for other_b, other_w, other_laps in itertools.product(range(1, 5), range(4), (1, 2, 3)):
                if w < b and other_w < other_b:
                    for script in ([0] * 20, [1, 0] * 10, [1] * 20, [1, 1, 0] * 7):
                        needs, row = play_needs(b, w, laps, helper.Script(script))
                        expected = need_fault(other_b, other_w, other_laps, needs, row)
                        self.assertEqual(judge_need_play(other_b, other_w, other_laps, (needs, row)), expected)
        self.assertEqual(judge_need_play(3, 1, 1, PLAY), ("need", 3))
        self.assertEqual(judge_need_play(3, 1, 3, PLAY), ("end",))
        self.assertEqual(judge_need_play(4, 2, 2, PLAY), ("need", 3))

    def test_pairs_of_all_sorts_against_the_words(self):
        for many in range(6):
            for needs in itertools.product((0, 1), repeat=many):
                for row in itertools.product((0, 1), repeat=many):
                    for b, w, laps in [(1, 0, 1), (2, 0, 2), (2, 1, 2), (3, 1, 1), (3, 2, 2)]:
                        expected = need_fault(b, w, laps, needs, row)
                        self.assertEqual(judge_need_play(b, w, laps, (needs, row)), expected, (b, w, laps, needs, row))

    def test_long_plays_in_good_time(self):
        begun = time.perf_counter()
        play = play_needs(2, 0, 2500, CallRunner(lambda seen: seen[0]))
        self.assertEqual(len(play[0]), 5000)
        self.assertIsNone(judge_need_play(2, 0, 2500, play))
        self.assertEqual(judge_need_play(2, 0, 2499, play), ("need", 4998))
        self.assertEqual(judge_need_play(10 ** 6, 10 ** 6 - 1, 9, play), ("need", 2))
        self.assertLess(time.perf_counter() - begun, 10)


class SlotPlays(unittest.TestCase):
    def judge(self, slots, row, ticks=4):
        return judge_slot_play(3, ticks, (slots, row))

    def test_plays_that_are_some(self):
        self.assertIsNone(self.judge(*SLOT_PLAY))
        for b in (1, 2, 5):
            for ticks in (1, 2, 20):
                for runner in [LazyRunner(b), InnerRunner(b), RowRunner([1, 1, 0] * 7)]:
                    self.assertIsNone(judge_slot_play(b, ticks, play_slots(b, ticks, runner)))

    def test_form(self):
        slots, row = SLOT_PLAY
        wrong = [list(SLOT_PLAY), (list(slots), row), (slots, list(row)), (slots,), SLOT_PLAY + ((),), (slots, row[:3]), slots,
                 (slots[:3], row), InnerRunner(3)]
        for value in wrong + [value for value in helper.ANYTHING if value not in [((), ()), ((1,), (1,))]]:
            self.assertEqual(judge_slot_play(3, 4, value), ("form",), value)

    def test_slot(self):
        slots, row = SLOT_PLAY
        for t in range(4):
            other = COSTS if slots[t] == EARNS else EARNS
            wrong = [other, (0, 1, 1, (0,)), (0, 1, 1), (0, 1, 1, (-1, 0)), (1, 1, 1, ()), (0, 2, 1, (-1, 0)), list(slots[t]),
                     slots[t][:3] + (list(slots[t][3]),), (False,) + slots[t][1:], (0, True) + slots[t][2:], LazyRunner(3),
                     slots[t][:2] + (bool(slots[t][2]),) + slots[t][3:], slots[t][:3] + ((slots[t][3][0] * 2,),)]
            if slots[t] == COSTS:
                wrong.append((0, 1, 0, (True,)))
            for value in wrong + helper.ANYTHING:
                self.assertEqual(self.judge(helper.changed_at(slots, t, value), row), ("slot", t), value)

    def test_longer_and_cut(self):
        slots, row = SLOT_PLAY
        self.assertEqual(self.judge(slots, row, 3), ("slot", 3))
        self.assertEqual(self.judge(slots, row, 1), ("slot", 1))
        self.assertEqual(self.judge(slots, row, 5), ("end",))
        self.assertEqual(self.judge(slots + (EARNS,), row + (0,)), ("slot", 4))
        for many in range(4):
            self.assertEqual(self.judge(slots[:many], row[:many]), ("end",))
        self.assertEqual(judge_slot_play(1, 1, ((), ())), ("end",))

    def test_served(self):
        slots, row = SLOT_PLAY
        for t in range(4):
            for value in [value for value in helper.ANYTHING if type(value) is not int or value not in (0, 1)] + [2]:
                self.assertEqual(self.judge(slots, helper.changed_at(row, t, value)), ("served", t))
        self.assertEqual(self.judge(slots, (True, 0, 1, 0)), ("served", 0))

    def test_the_first_of_several(self):
        self.assertEqual(self.judge((COSTS, COSTS), (None, 0)), ("slot", 0))
        self.assertEqual(self.judge((EARNS, EARNS), (2, 0)), ("served", 0))
        self.assertEqual(self.judge((EARNS, EARNS), (1, 2)), ("slot", 1))
        self.assertEqual(self.judge((EARNS, COSTS), (1, 2)), ("served", 1))
        self.assertEqual(self.judge((EARNS, COSTS), (1, None), 1), ("slot", 1))

    def test_pairs_of_all_sorts_against_the_words(self):
        for many in range(5):
            for slots in itertools.product((EARNS, COSTS), repeat=many):
                for row in itertools.product((0, 1, 2), repeat=many):
                    for ticks in (1, 3, 4):
                        self.assertEqual(self.judge(slots, row, ticks), slot_fault(ticks, slots, row))


class Costs(unittest.TestCase):
    def test_the_examples(self):
        self.assertEqual(need_costs(3, PLAY), (8, 7))
        self.assertEqual(need_costs(3, ((1, 0, 0, 0), (1, 1, 1, 1))), (7, 4))
        self.assertEqual(need_gain(3, 1, PLAY), 4 * 8 - 5 * 7 + 4)
        self.assertEqual(slot_account(3, SLOT_PLAY), ((1, 2, 3, 1), (0, 3, 3, 1), (1, 2, 6, 2), (0, 3, 6, 2)))
        self.assertEqual(slot_costs(3, SLOT_PLAY), (6, 2))
        self.assertEqual(slot_gain(3, SLOT_PLAY), 3 * 6 - 7 * 2 + 12)

    def test_plays_of_needs(self):
        for b, w in [(1, 0), (2, 0), (2, 1), (3, 0), (3, 1), (3, 2), (4, 1)]:
            for laps in (1, 2):
                for script in itertools.product((0, 1, 2), repeat=5):
                    needs, row = play_needs(b, w, laps, helper.Script(script))
                    paid, least = need_costs(b, (needs, row))
                    self.assertEqual(paid, helper.need_row_cost(row, b))
                    if len(needs) <= 7:
                        self.assertEqual(least, min(helper.need_row_cost(each, b) for each in helper.serving_rows(needs)))
                    gain = need_gain(b, w, (needs, row))
                    self.assertEqual(gain, paid * (b + 1) - (2 * b - w) * least + (b + 1) * (b - 1 - w))
                    self.assertGreaterEqual(gain, 0)

    def test_plays_of_slots(self):
        for b in (1, 2, 3, 5):
            for script in itertools.product((0, 1), repeat=6):
                slots, row = play = play_slots(b, 6, RowRunner(script))
                account = slot_account(b, play)
                self.assertEqual(len(account), 6)
                for t, (x, step, paid, least) in enumerate(account):
                    ends = helper.costs_by_end(slots[:t + 1], b)
                    self.assertEqual((x, paid, least), (row[t], helper.plain_cost(slots[:t + 1], b, row[:t + 1]), min(ends.values())))
                    ready = [min(ends[y] + b * max(0, z - y) for y in ends) for z in (0, 1)]
                    self.assertEqual(step, ready[1] - ready[0])
                    self.assertEqual(least, ready[0])
                    self.assertGreaterEqual(b * paid, (3 * b - 2) * least - 2 * b * (b - 1))
                    self.assertGreaterEqual(2 * paid, t + 1)
                self.assertEqual(slot_costs(b, play), account[-1][2:])
                gain = slot_gain(b, play)
                self.assertEqual(gain, b * account[-1][2] - (3 * b - 2) * account[-1][3] + 2 * b * (b - 1))
                self.assertGreaterEqual(gain, 0)

    def test_long_plays(self):
        source = random.Random(71)
        begun = time.perf_counter()
        for b in (1, 2, 9, 10 ** 6):
            play = play_slots(b, 300, RowRunner([source.randrange(2) for _ in range(300)]))
            self.assertGreaterEqual(slot_gain(b, play), 0)
            self.assertEqual(slot_account(b, play)[-1][2:], slot_costs(b, play))
            play = play_needs(b, b // 3 if b < 10 else 0, 400, CallRunner(lambda seen: seen[0]))
            self.assertGreaterEqual(need_gain(b, b // 3 if b < 10 else 0, play), 0)
        self.assertLess(time.perf_counter() - begun, 20)

    def test_the_inner_runner_loses_nothing_to_the_player(self):
        for b in (2, 3, 6):
            paid, least = slot_costs(b, play_slots(b, 300, InnerRunner(b)))
            self.assertLessEqual(b * paid, (3 * b - 2) * least)


class Beaten(unittest.TestCase):
    def test_around_equality(self):
        for p, q, m in [(5, 4, 8), (1, 1, 3), (7, 3, 3), (0, 5, 9), (4, 2, 6), (10 ** 9, 10 ** 9 - 1, 10 ** 9 - 1)]:
            paid = p * m // q
            self.assertEqual(paid * q, p * m)
            self.assertIs(is_beaten((p, q), (paid, m)), False)
            self.assertIs(is_beaten((p, q), (paid + 1, m)), True)
            self.assertIs(is_beaten((p, q), (paid - 1, m)), False)

    def test_some(self):
        self.assertIs(is_beaten((5, 4), (7, 4)), True)
        self.assertIs(is_beaten((2, 1), (0, 0)), False)
        self.assertIs(is_beaten((2, 1), (1, 0)), True)
        self.assertIs(is_beaten((0, 1), (0, 5)), False)


if __name__ == "__main__":
    unittest.main()
