"""Days: what is one, and what it needs."""

import random
import unittest

import helper
from wakedenough.errors import BadTree
from wakedenough.requests import check_day, day_needs

NAMES = ["m", "n", "o"]
NOTHING = ((), (), ())


def path(value, names=NAMES):
    try:
        result = check_day(names, value)
    except BadTree as error:
        return error.path
    assert result is None
    return None


def is_name(value):
    return type(value) is str and 1 <= len(value) <= 12 and value.isalnum() and value.lower() == value and value[0].isalpha()


def plain_path(value, names=NAMES):
    """The path of the first wrong part of what should be a day, by the words of the interface."""
    if type(value) is not tuple:
        return ()
    known = []
    for t, tick in enumerate(value):
        if type(tick) is not tuple or len(tick) != 3:
            return (t,)
        for k in (0, 1):
            if type(tick[k]) is not tuple:
                return (t, k)
            for at, name in enumerate(tick[k]):
                if type(name) is not str or name not in names or name in tick[k][:at]:
                    return (t, k, at)
        if type(tick[2]) is not tuple:
            return (t, 2)
        for at, request in enumerate(tick[2]):
            if type(request) is not tuple or len(request) != 2:
                return (t, 2, at)
            if not is_name(request[0]) or request[0] in known:
                return (t, 2, at, 0)
            if type(request[1]) is not int or request[1] < 1:
                return (t, 2, at, 1)
            known.append(request[0])
    return None


def plain_needs(day):
    """By the words of S9.6: at s all that came up to s and are longer than the ticks since then."""
    return tuple(sum(1 for c in range(s + 1) for _, length in day[c][2] if length > s - c) for s in range(len(day)))


class Days(unittest.TestCase):
    def test_days(self):
        for day in [(), (NOTHING,), (NOTHING,) * 200, ((("m", "n"), ("n", "m"), (("a", 1), ("b", 10 ** 12))), (("m",), ("o",), (("c", 1),)))]:
            self.assertIsNone(path(day))
        self.assertIsNone(path((((), (), (("a", 1),)),), []))
        self.assertIsNone(path(((("m",), (), ()),), ("m",)))

    def test_wrong_days(self):
        for value in helper.ANYTHING:
            self.assertEqual(path(value), plain_path(value), value)
            self.assertEqual(path((NOTHING, value)), plain_path((NOTHING, value)), value)
            for k in range(3):
                tick = helper.changed_at(NOTHING, k, value)
                self.assertEqual(path((NOTHING, tick)), plain_path((NOTHING, tick)), tick)
        self.assertEqual([path([NOTHING]), path(list(())), path((list(NOTHING),)), path((((), ()),)), path((((), (), (), ()),))], [(), (), (0,), (0,), (0,)])

    def test_machines(self):
        for k in (0, 1):
            day = lambda names: (NOTHING, helper.changed_at(NOTHING, k, names))
            self.assertEqual([path(day(["m"])), path(day(("x",))), path(day(("m", "n", "m"))), path(day(("m", "M"))), path(day(("m", ["n"])))],
                             [(1, k), (1, k, 0), (1, k, 2), (1, k, 1), (1, k, 1)])
            for value in helper.ANYTHING:
                self.assertEqual(path(day(("m", value))), (1, k, 1))
            # A name that stands there at another tick, or that is no name of machines.
            self.assertIsNone(path(day(("m",)) + day(("m",))))
            self.assertEqual(path(day(("m",)), ["n"]), (1, k, 0))

    def test_falls_and_mends_of_one_machine(self):
        self.assertIsNone(path(((("m",), ("m",), ()),)))

    def test_requests(self):
        day = lambda *requests: (NOTHING, ((), (), requests))
        for value in helper.ANYTHING:
            self.assertEqual(path(day(("a", 1), value)), (1, 2, 1) if not (type(value) is tuple and len(value) == 2) else (1, 2, 1, 0), value)
            if not is_name(value):
                self.assertEqual(path(day((value, 1))), (1, 2, 0, 0), value)
            if type(value) is not int or value < 1:
                self.assertEqual(path(day(("a", value))), (1, 2, 0, 1), value)
        self.assertEqual([path(day(("a", 1, 1))), path(day(["a", 1])), path(day(("a",)))], [(1, 2, 0)] * 3)
        self.assertEqual([path(day(("a", 0))), path(day(("a", True))), path(day(("a", -1))), path(day(("a", "1")))], [(1, 2, 0, 1)] * 4)
        self.assertEqual([path(day(("A", 1))), path(day(("1a", 1))), path(day(("abcdefghijklm", 1))), path(day(("", 1)))], [(1, 2, 0, 0)] * 4)

    def test_names_of_requests(self):
        one = ((), (), (("a", 1), ("b", 1)))
        self.assertEqual(path((((), (), (("a", 1), ("a", 1))),)), (0, 2, 1, 0))
        self.assertEqual(path((one, NOTHING, ((), (), (("c", 1), ("b", 1))))), (2, 2, 1, 0))
        self.assertIsNone(path((((), (), (("m", 1),)),)))

    def test_several_at_once(self):
        wrong = (("x",), ("x",), (("a", 0), ("A", 1)))
        self.assertEqual(path((wrong,)), (0, 0, 0))
        self.assertEqual(path((((), ("m", "m"), (("a", 0),)),)), (0, 1, 1))
        self.assertEqual(path((((), (), (("A", 0),)), None)), (0, 2, 0, 0))
        self.assertEqual(path((((), (), (("a", 0), ("a", 1))), None)), (0, 2, 0, 1))
        self.assertEqual(path((((), [], (("a", 0),)),)), (0, 1))

    def test_drawn_days_against_the_words(self):
        source = random.Random(261)
        names = ["m", "n", "o", "x", "M", 3, None]
        found = set()
        for _ in range(3000):
            some = lambda: tuple(source.choice(names[:source.choice((3, 3, 7))]) for _ in range(source.choice((0, 0, 1, 2))))
            requests = lambda: tuple((source.choice("abcdefghijkL"), source.choice((1, 2, 9, source.choice((0, 1, True))))) for _ in range(source.choice((0, 1, 2))))
            day = tuple((some(), some(), requests()) for _ in range(source.randrange(4)))
            self.assertEqual(path(day), plain_path(day), day)
            found.add(len(path(day) or ()))
        self.assertEqual(found, {0, 3, 4})


class Needs(unittest.TestCase):
    def test_example(self):
        day = (((), (), (("a", 2),)),) + (NOTHING,) * 3 + (((), (), (("c", 1),)), NOTHING)
        self.assertEqual(day_needs(day), (1, 1, 0, 0, 1, 0))

    def test_no_ticks(self):
        self.assertEqual(day_needs(()), ())
        self.assertEqual(day_needs((NOTHING,) * 3), (0, 0, 0))

    def test_against_the_words(self):
        source = random.Random(262)
        for k in range(200):
            day, many = [], 0
            for _ in range(k % 12):
                requests = []
                for _ in range(source.choice((0, 0, 1, 3))):
                    requests.append((f"r{many}", source.choice((1, 2, 3, 12, 300))))
                    many += 1
                day.append((tuple(NAMES[:source.randrange(4)]), (), tuple(requests)))
            needs = day_needs(tuple(day))
            self.assertEqual(needs, plain_needs(day))
            self.assertIs(type(needs), tuple)

    def test_great_lengths(self):
        self.assertEqual(day_needs((((), (), (("a", 10 ** 30),)),) * 1 + (NOTHING,) * 2), (1, 1, 1))
        day = tuple(((), (), ((f"r{t}", 200),)) for t in range(200))
        self.assertEqual(day_needs(day), tuple(range(1, 201)))


if __name__ == "__main__":
    unittest.main()
