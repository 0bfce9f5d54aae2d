"""Fleets: what becomes of machines that are started, work, are stopped, fall and are mended."""

import random
import unittest

import helper
from helper import PlainFleet
from wakedenough.errors import BadAct, UnknownName
from wakedenough.machines import Fleet

NAMES = ["m", "a", "zz", "b", "b1", "q"]


def told(fleet):
    """All that a fleet tells of itself."""
    words = ("off", "idle", "busy", "fallen")
    return (fleet.tick(), fleet.names(), [fleet.state(name) for name in fleet.names()], [fleet.those(word) for word in words], fleet.many_on())


def told_plainly(plain):
    words = ("off", "idle", "busy", "fallen")
    return (plain.tick, sorted(plain.states), [plain.states[name] for name in sorted(plain.states)], [plain.those(word) for word in words], plain.many_on())


class Example(unittest.TestCase):
    def test_s9_4(self):
        fleet = Fleet(["a", "b", "c"])
        self.assertEqual(fleet.set_to(2), (["a", "b"], []))
        self.assertEqual(fleet.take("r"), "a")
        self.assertEqual(fleet.go_on(), 1)
        self.assertEqual(fleet.set_to(3), (["c"], []))
        self.assertEqual(fleet.take("q"), "c")
        self.assertEqual(fleet.go_on(), 2)
        self.assertIsNone(fleet.free("a"))
        self.assertEqual(fleet.state("a"), ("idle", 2))
        self.assertEqual(fleet.set_to(2), ([], ["b"]))
        self.assertEqual(fleet.set_to(0), ([], ["a"]))
        self.assertEqual(fleet.state("c"), ("busy", "q"))
        self.assertEqual(fleet.fall("c"), "q")
        self.assertEqual([fleet.state(name) for name in "abc"], [("off", 2), ("off", 2), ("fallen", 2)])


class Beginnings(unittest.TestCase):
    def test_new(self):
        fleet = Fleet(NAMES)
        self.assertEqual(fleet.names(), ["a", "b", "b1", "m", "q", "zz"])
        self.assertEqual([fleet.tick(), fleet.many_on()], [0, 0])
        self.assertEqual({name: fleet.state(name) for name in NAMES}, {name: ("off", 0) for name in NAMES})
        self.assertEqual([fleet.those(word) for word in ("off", "idle", "busy", "fallen")], [sorted(NAMES), [], [], []])

    def test_no_machines(self):
        fleet = Fleet([])
        self.assertEqual([fleet.names(), fleet.many_on(), fleet.those("off")], [[], 0, []])
        self.assertEqual([fleet.set_to(5), fleet.set_to(0), fleet.take("r"), fleet.go_on()], [([], []), ([], []), None, 1])
        for call in (fleet.state, fleet.fall, fleet.mend, fleet.free):
            self.assertRaises(UnknownName, call, "a")

    def test_tuples(self):
        self.assertEqual(told(Fleet(tuple(NAMES))), told(Fleet(NAMES)))


class Drawn(unittest.TestCase):
    def test_many_changes_one_behind_another(self):
        source = random.Random(251)
        for many in list(range(7)) + [6, 6, 6, 20, 40]:
            names = NAMES[:many] + ["x" + str(k) for k in range(max(0, many - 6))]
            source.shuffle(names)
            fleet, plain = Fleet(names), PlainFleet(names)
            for k in range(500):
                change = source.choice(("fall", "mend", "mend", "set_to", "set_to", "take", "take", "free", "go_on"))
                if change == "set_to":
                    arguments = (source.choice((0, 1, source.randrange(many + 3))),)
                elif change == "take":
                    arguments = ("r" + str(k),)
                elif change == "go_on":
                    arguments = ()
                elif not names:
                    continue
                else:
                    arguments = (source.choice(names),)
                expected = getattr(plain, change)(*arguments)
                if expected is BadAct:
                    before = told(fleet)
                    with self.assertRaises(BadAct) as caught:
                        getattr(fleet, change)(*arguments)
                    self.assertEqual(caught.exception.word, "busy" if change == "free" else "fallen")
                    self.assertEqual(told(fleet), before)
                else:
                    self.assertEqual(getattr(fleet, change)(*arguments), expected)
                self.assertEqual(told(fleet), told_plainly(plain))

    def test_what_holds(self):
        source = random.Random(252)
        for _ in range(200):
            fleet = Fleet(NAMES)
            for k in range(30):
                fleet.set_to(source.randrange(7))
                idle = {name: fleet.state(name)[1] for name in fleet.those("idle")}
                taken = fleet.take("r" + str(k))
                self.assertTrue(all((idle[taken], name) >= (since, taken) for name, since in idle.items()))
                if source.random() < 0.4 and fleet.those("busy"):
                    fleet.free(source.choice(fleet.those("busy")))
                if source.random() < 0.3:
                    name = source.choice(NAMES)
                    fleet.mend(name) if fleet.state(name)[0] == "fallen" else fleet.fall(name)
                fleet.go_on()
                x, busy, stand = source.randrange(8), len(fleet.those("busy")), len(NAMES) - len(fleet.those("fallen"))
                idle = fleet.those("idle")
                started, stopped = fleet.set_to(x)
                self.assertEqual(fleet.many_on(), x if busy <= x <= stand else max(busy, min(x, stand)))
                self.assertEqual(stopped, idle[:len(stopped)])
                self.assertEqual(fleet.set_to(x), ([], []))


class Sequences(unittest.TestCase):
    def test_who_is_started(self):
        fleet = Fleet(["c", "b", "a"])
        fleet.set_to(3)
        fleet.go_on()
        fleet.set_to(2)
        fleet.go_on()
        fleet.set_to(0)
        self.assertEqual(fleet.those("off"), ["a", "b", "c"])
        self.assertEqual(fleet.set_to(2), (["a", "b"], []))

    def test_equal_ticks_by_names(self):
        fleet = Fleet(["b", "b1", "a", "ab"])
        self.assertEqual(fleet.set_to(10 ** 9), (["a", "ab", "b", "b1"], []))
        self.assertEqual([fleet.take("r1"), fleet.take("r2")], ["a", "ab"])
        self.assertEqual(fleet.set_to(1), ([], ["b", "b1"]))
        self.assertEqual(fleet.many_on(), 2)

    def test_all_busy_and_all_fallen(self):
        fleet = Fleet(["a", "b"])
        fleet.set_to(2)
        fleet.take("r")
        fleet.take("s")
        self.assertEqual([fleet.set_to(0), fleet.set_to(9), fleet.take("t")], [([], []), ([], []), None])
        self.assertEqual([fleet.fall("b"), fleet.fall("a")], ["s", "r"])
        self.assertEqual([fleet.set_to(0), fleet.set_to(9), fleet.many_on()], [([], []), ([], []), 0])
        self.assertEqual(fleet.those("fallen"), ["a", "b"])

    def test_any_string_is_a_request(self):
        fleet = Fleet(["a"])
        fleet.set_to(1)
        self.assertEqual([fleet.take(""), fleet.state("a"), fleet.fall("a")], ["a", ("busy", ""), ""])

    def test_those_with_other_words(self):
        fleet = Fleet(["b", "a"])
        fleet.set_to(2)
        fleet.take("r")
        fleet.go_on()
        fleet.free("a")
        self.assertEqual(fleet.those("idle"), ["b", "a"])


class Errors(unittest.TestCase):
    def test_unknown_names_of_all_kinds(self):
        fleet = Fleet(["a", "b"])
        fleet.set_to(1)
        fleet.take("r")
        fleet.fall("b")
        before = told(fleet)
        for name in helper.ANYTHING + ["c", "A", "a ", ["a"], ("a",), {"a"}, fleet]:
            if type(name) is str and name == "a":
                continue
            for call in (fleet.state, fleet.fall, fleet.mend, fleet.free):
                with self.assertRaises(UnknownName) as caught:
                    call(name)
                self.assertIs(caught.exception.name, name)
        self.assertEqual(told(fleet), before)

    def test_bad_acts(self):
        fleet = Fleet(["a", "b"])
        fleet.set_to(1)
        fleet.fall("b")
        before = told(fleet)
        for call, name, word in [(fleet.fall, "b", "fallen"), (fleet.mend, "a", "fallen"), (fleet.free, "a", "busy"), (fleet.free, "b", "busy")]:
            with self.assertRaises(BadAct) as caught:
                call(name)
            self.assertEqual(caught.exception.word, word)
        self.assertEqual(told(fleet), before)
        self.assertEqual(fleet.mend("b"), None)
        self.assertEqual(fleet.state("b"), ("off", 0))


class Values(unittest.TestCase):
    def test_lists_are_new(self):
        names = ["b", "a"]
        fleet = Fleet(names)
        names.append("c")
        before = told(fleet)
        fleet.names().append("d")
        fleet.those("off").append("d")
        started, stopped = fleet.set_to(0)
        started.append("a")
        stopped.append("b")
        self.assertEqual(told(fleet), before)
        started, stopped = fleet.set_to(2)
        started.clear()
        self.assertEqual(fleet.those("idle"), ["a", "b"])
        self.assertIsNot(fleet.names(), fleet.names())


if __name__ == "__main__":
    unittest.main()
