"""Halls: a fleet goes through a day by a runner, tick by tick."""

import random
import time
import unittest

import helper
from helper import PlainHall, random_day
from wakedenough.errors import NothingDone
from wakedenough.hall import Hall
from wakedenough.layers import least_by_layers
from wakedenough.requests import check_day, day_needs
from wakedenough.runners import CallRunner, RowRunner, SightRunner, run

NAMES = ["m", "a", "n", "b"]
NOTHING = ((), (), ())
EXAMPLE = (((), (), (("a", 2),)),) + (NOTHING,) * 3 + (((), (), (("c", 1),)), NOTHING)


class Drawn:
    """A runner that returns what is needed, more, less, and what is no number."""

    def __init__(self, seed):
        self.source = random.Random(seed)
        self.looks = []

    def look(self, seen):
        self.looks.append(seen)
        return self.source.choice((seen[0], seen[0], max(seen), seen[0] + 1, 0, 1, 10 ** 9, None, True, -1, "2", (2,), [1], {}, False))


def told(hall):
    """All that a hall tells of itself."""
    return (hall.tick(), hall.is_over(), hall.states(), hall.waiting(), hall.served(), hall.needs(), hall.row(), hall.unmet(), hall.books())


def told_plainly(plain):
    waiting = [(request, plain.live[request]) for request in plain.waits]
    return (plain.fleet.tick, plain.fleet.tick >= len(plain.day), plain.fleet.states, waiting, plain.served, tuple(plain.needs), tuple(plain.row), plain.unmet, plain.books)


def gone(names, b, w, day, runner):
    """A hall behind its day."""
    hall = Hall(names, b, w, day, runner)
    while not hall.is_over():
        hall.step()
    return hall


class Example(unittest.TestCase):
    def test_steps(self):
        hall = Hall(["m", "n"], 3, 0, EXAMPLE, SightRunner(3, 0))
        self.assertEqual([hall.step() for _ in range(6)], [(1, 1, 1), (1, 1, 1), (0, 1, 1), (0, 1, 1), (1, 1, 1), (0, 1, 1)])
        self.assertEqual([hall.needs(), hall.row()], [(1, 1, 0, 0, 1, 0), (1,) * 6])
        self.assertEqual([hall.served(), hall.unmet(), hall.waiting()], [["a", "c"], [], []])
        self.assertEqual(hall.states(), {"m": ("idle", 5), "n": ("off", 0)})
        self.assertEqual(hall.books(), [(0, "start", "m", None, 3), (0, "work", "m", "a", 1), (1, "work", "m", "a", 1), (2, "idle", "m", None, 1),
                                        (3, "idle", "m", None, 1), (4, "work", "m", "c", 1), (5, "idle", "m", None, 1)])


class TickByTick(unittest.TestCase):
    def check(self, names, b, w, day, one, other):
        self.assertIsNone(check_day(names, day))
        hall, plain = Hall(names, b, w, day, one), PlainHall(names, b, w, day, other)
        self.assertEqual(told(hall), told_plainly(plain))
        for _ in day:
            self.assertEqual(hall.step(), plain.step())
            self.assertEqual(told(hall), told_plainly(plain))
        before = told(hall)
        self.assertRaises(NothingDone, hall.step)
        self.assertEqual(told(hall), before)
        return plain

    def test_drawn_days(self):
        source = random.Random(271)
        for k in range(250):
            names = NAMES[:source.randrange(5)]
            day = random_day(source, names, source.randrange(25), source.choice((1, 3, 12)), source.choice((0, 0.1, 0.6)), source.choice((1, 3)))
            one = Drawn(k)
            plain = self.check(names, source.choice((1, 3, 10 ** 6)), source.choice((0, 1, 2, 5, 50)), day, one, Drawn(k))
            self.assertEqual(one.looks, plain.seen)
            self.assertTrue(all(type(seen) is tuple for seen in one.looks))

    def test_runners_that_tell_just_what_is_needed(self):
        source = random.Random(272)
        for w in (0, 2):
            for k in range(60):
                day = random_day(source, NAMES, 30, 5, 0.3)
                call = lambda seen: seen[-1] if k % 2 else seen[0]
                self.check(NAMES, 2, w, day, CallRunner(call), CallRunner(call))
                self.check(NAMES, 3, w, day, SightRunner(3, w), SightRunner(3, w))

    def test_no_machines(self):
        day = (((), (), (("a", 2), ("b", 1))), ((), (), (("c", 1),)), NOTHING)
        hall = gone([], 3, 1, day, CallRunner(lambda seen: seen[0]))
        self.assertEqual([hall.needs(), hall.row(), hall.books(), hall.states()], [(2, 3, 3), (0, 0, 0), [], {}])
        self.assertEqual([hall.unmet(), hall.waiting()], [[(0, 2), (1, 3), (2, 3)], [("a", 2), ("b", 1), ("c", 1)]])
        self.check([], 3, 1, day, Drawn(1), Drawn(1))

    def test_no_ticks(self):
        hall = Hall(NAMES, 3, 0, (), Drawn(1))
        self.assertEqual(told(hall), (0, True, {name: ("off", 0) for name in NAMES}, [], [], (), (), [], []))
        self.assertRaises(NothingDone, hall.step)


class Parts(unittest.TestCase):
    def test_what_is_no_number_counts_as_0(self):
        for x in helper.ANYTHING + [10 ** 9]:
            hall = Hall(["m"], 2, 0, (((), (), (("a", 1),)),), CallRunner(lambda seen: x))
            is_number = type(x) is int and x >= 0
            self.assertEqual(hall.step(), (1, x if is_number else 0, 1 if is_number and x >= 1 else 0), x)

    def test_falls(self):
        # m works for a when it falls, n is off, b has fallen already; the lesser names work.
        day = (((), (), (("r", 3), ("s", 3))), (("b", "a", "n"), (), (("t", 1),)), (("b",), ("m",), ()), ((), ("b", "n"), ()))
        hall = Hall(["a", "b", "m", "n"], 5, 0, day, CallRunner(lambda seen: seen[0]))
        self.assertEqual(hall.step(), (2, 2, 2))
        self.assertEqual(hall.states(), {"a": ("busy", "r"), "b": ("busy", "s"), "m": ("off", 0), "n": ("off", 0)})
        self.assertEqual(hall.step(), (3, 3, 1))
        # The requests of those that fell wait ahead, in the order of falls; the one machine left takes the first.
        self.assertEqual(hall.states(), {"a": ("fallen", 1), "b": ("fallen", 1), "m": ("busy", "s"), "n": ("fallen", 1)})
        self.assertEqual(hall.waiting(), [("r", 2), ("t", 1)])
        self.assertEqual(hall.unmet(), [(1, 2)])
        hall.step()
        self.assertEqual(hall.states()["b"], ("fallen", 1))
        hall.step()
        self.assertEqual(hall.served(), ["s"])
        # b and m are idle since this tick both: so the lesser name takes the first request.
        self.assertEqual(hall.states(), {"a": ("fallen", 1), "b": ("busy", "r"), "m": ("busy", "t"), "n": ("off", 3)})

    def test_a_fall_and_a_mend_at_one_tick(self):
        day = (((), (), (("r", 2),)), (("m",), ("m",), ()), NOTHING)
        hall = Hall(["m"], 5, 0, day, CallRunner(lambda seen: seen[0]))
        self.assertEqual([hall.step(), hall.step(), hall.step()], [(1, 1, 1), (1, 1, 1), (0, 0, 0)])
        self.assertEqual([entry[1] for entry in hall.books()], ["start", "work", "start", "work"])
        self.assertEqual(hall.served(), ["r"])
        self.assertEqual(hall.states(), {"m": ("off", 2)})

    def test_what_is_served_at_the_end(self):
        hall = gone(["m"], 2, 0, (((), (), (("a", 2),)), NOTHING), CallRunner(lambda seen: 1))
        self.assertEqual([hall.served(), hall.states()], [[], {"m": ("busy", "a")}])
        hall = gone(["m"], 2, 0, (((), (), (("a", 2),)), NOTHING, NOTHING), CallRunner(lambda seen: 1))
        self.assertEqual([hall.served(), hall.states()], [["a"], {"m": ("idle", 2)}])

    def test_served_by_the_names_of_machines(self):
        day = (((), (), (("z", 1), ("y", 1), ("x", 1))), NOTHING)
        hall = gone(["c", "a", "b"], 2, 0, day, CallRunner(lambda seen: 3))
        self.assertEqual(hall.served(), ["z", "y", "x"])
        day = (((), (), (("z", 3),)), ((), (), (("y", 2), ("x", 2))), NOTHING, NOTHING)
        hall = gone(["c", "a", "b"], 2, 0, day, RowRunner([1, 3, 3, 3]))
        self.assertEqual(hall.served(), ["z", "y", "x"])
        # The youngest idle machine is c, so the second request works ahead of the first one's name.
        day = (((), (), (("z", 1),)), ((), (), (("y", 1), ("x", 1))), NOTHING)
        hall = gone(["b", "a"], 2, 0, day, RowRunner([1, 2, 2]))
        self.assertEqual(hall.served(), ["z", "y", "x"])

    def test_a_runner_that_has_looked_elsewhere(self):
        runner = SightRunner(4, 0)
        self.assertEqual(runner.look((2,)), 2)
        hall = Hall(["m", "n", "o"], 4, 0, (NOTHING,) * 4, runner)
        self.assertEqual([hall.step()[1], hall.step()[1]], [2, 2])
        self.assertEqual(runner.look((3,)), 3)
        self.assertEqual([hall.step()[1], hall.step()[1]], [3, 3])

    def test_what_is_told_is_new(self):
        names, runner = ["m", "n"], SightRunner(3, 0)
        hall = Hall(names, 3, 0, EXAMPLE, runner)
        names.append("o")
        hall.step()
        before = told(hall)
        hall.states().clear()
        hall.waiting().append(1)
        hall.served().append("x")
        hall.unmet().append((0, 1))
        hall.books().clear()
        self.assertEqual(told(hall), before)
        self.assertEqual(sorted(hall.states()), ["m", "n"])
        self.assertEqual([type(hall.needs()), type(hall.row()), type(hall.step())], [tuple, tuple, tuple])


class WhatHolds(unittest.TestCase):
    def test_unmet(self):
        source = random.Random(273)
        for k in range(120):
            day = random_day(source, NAMES, 25, 5, 0.3)
            hall = gone(NAMES, 3, 2, day, Drawn(k))
            late = [(t, need - on) for t, (need, on) in enumerate(zip(hall.needs(), hall.row())) if need > on]
            self.assertEqual(hall.unmet(), late)

    def test_machines_enough(self):
        source = random.Random(274)
        names = [f"n{k}" for k in range(12)]
        for k in range(80):
            day = random_day(source, names, 30, 6, 0)
            needs = day_needs(day)
            self.assertLessEqual(max(needs, default=0), 40)
            hall = gone(names + [f"x{k}" for k in range(30)], 3, 1, day, CallRunner(lambda seen: seen[0] + k % 2))
            self.assertEqual([hall.needs(), hall.unmet()], [needs, []])
            # No machine falls: so as many are started as the fleet row starts.
            self.assertEqual(len([entry for entry in hall.books() if entry[1] == "start"]), helper.plain_starts(hall.row()))

    def test_the_sight_runner_keeps_its_factor(self):
        source = random.Random(275)
        names = [f"n{k}" for k in range(40)]
        for b, w in [(1, 0), (2, 0), (2, 1), (5, 0), (5, 3), (9, 2), (30, 29), (10 ** 6, 50)]:
            for k in range(12):
                day = random_day(source, names, 40, (2, 5, 20)[k % 3], 0, 1)
                needs = day_needs(day)
                self.assertLessEqual(max(needs), 40)
                hall = gone(names, b, w, day, SightRunner(b, w))
                self.assertEqual([hall.needs(), hall.unmet(), hall.row()], [needs, [], run(SightRunner(b, w), needs, w)])
                paid = sum(entry[4] for entry in hall.books())
                self.assertEqual(paid, helper.need_row_cost(hall.row(), b))
                self.assertLessEqual((b + 1) * paid, (2 * b - w) * least_by_layers(needs, b))

    def test_great_days_in_good_time(self):
        begun = time.perf_counter()
        names = [f"n{k}" for k in range(40)]
        source = random.Random(276)
        for k in range(4):
            day = random_day(source, names, 200, 200, 0.5, 2)
            hall = gone(names, 10 ** 6, 50, day, Drawn(k))
            self.assertEqual(len(hall.row()), 200)
        day = (((), (), tuple((f"r{k}", 200) for k in range(200))),) + ((tuple(names), tuple(names), ()),) * 199
        self.assertEqual(gone(names, 2, 50, day, CallRunner(lambda seen: seen[0])).needs(), (200,) * 200)
        self.assertLess(time.perf_counter() - begun, 20)


if __name__ == "__main__":
    unittest.main()
