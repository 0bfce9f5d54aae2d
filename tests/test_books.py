"""Books: what they add up to, and for whom all was."""

import random
import unittest

from helper import PlainHall, random_day
from wakedenough.books import bills, machine_costs, tick_costs, total
from wakedenough.runners import CallRunner, SightRunner

NAMES = ["m", "a", "n", "b"]
EXAMPLE = [(0, "start", "m", None, 3), (0, "work", "m", "a", 1), (1, "work", "m", "a", 1), (2, "idle", "m", None, 1),
           (3, "idle", "m", None, 1), (4, "work", "m", "c", 1), (5, "idle", "m", None, 1)]


def payer(books, at):
    """For whom an entry is, by the words of S9.8."""
    tick, word, machine, request, _ = books[at]
    if word == "work":
        return request
    own = [k for k in range(at + 1, len(books)) if books[k][2] == machine]
    work = next((k for k in own if books[k][1] == "work"), None)
    if work is None:
        return None
    between = [books[k] for k in own if k < work]
    if any(entry[1] == "start" for entry in between):
        return None
    ticks = {entry[0] for entry in between}
    return books[work][3] if all(t in ticks for t in range(tick + 1, books[work][0])) else None


def plain_bills(books):
    found = {}
    for at in range(len(books)):
        found[payer(books, at)] = found.get(payer(books, at), 0) + books[at][4]
    return found


def drawn_books(seed, many):
    """Books of halls, with falls and stops and idle machines, with lengths of the requests and who were served."""
    source = random.Random(seed)
    for k in range(many):
        names = NAMES[:source.randrange(5)]
        day = random_day(source, names, source.randrange(25), 4, source.choice((0, 0.3)))
        runner = CallRunner(lambda seen: source.choice((seen[0], seen[0] + 1, max(seen), 0, 4)))
        if k % 5 == 0:
            runner = SightRunner(4, 1)
        hall = PlainHall(names, source.choice((1, 4)), 1, day, runner)
        for _ in day:
            hall.step()
        yield hall


class Example(unittest.TestCase):
    def test_s9_8(self):
        self.assertEqual(total(EXAMPLE), 9)
        self.assertEqual(bills(EXAMPLE), {"a": 5, "c": 3, None: 1})
        self.assertEqual(tick_costs(EXAMPLE, 6), (4, 1, 1, 1, 1, 1))
        self.assertEqual(machine_costs(EXAMPLE), {"m": 9})


class Sums(unittest.TestCase):
    def test_empty_books(self):
        self.assertEqual([total([]), tick_costs([], 0), tick_costs([], 3), machine_costs([]), bills([])], [0, (), (0, 0, 0), {}, {}])

    def test_drawn_books(self):
        for hall in drawn_books(281, 80):
            ticks = len(hall.day)
            self.assertEqual(total(hall.books), sum(entry[4] for entry in hall.books))
            for many in (0, 1, ticks, ticks + 2):
                costs = tick_costs(hall.books, many)
                self.assertEqual(costs, tuple(sum(entry[4] for entry in hall.books if entry[0] == t) for t in range(many)))
                self.assertIs(type(costs), tuple)
            machines = {name: sum(entry[4] for entry in hall.books if entry[2] == name) for name in {entry[2] for entry in hall.books}}
            self.assertEqual(machine_costs(hall.books), machines)
            # Each tick costs how many are on, and b for each that was started.
            started = [sum(1 for entry in hall.books if entry[:2] == (t, "start")) for t in range(ticks)]
            self.assertEqual(tick_costs(hall.books, ticks), tuple(on + hall.b * many for on, many in zip(hall.row, started)))


class Bills(unittest.TestCase):
    def test_drawn_books(self):
        for hall in drawn_books(282, 150):
            found = bills(hall.books)
            self.assertEqual(found, plain_bills(hall.books))
            self.assertEqual(sum(found.values()), total(hall.books))
            lengths = {name: length for _, _, requests in hall.day for name, length in requests}
            for name in hall.served:
                self.assertGreaterEqual(found[name], lengths[name])

    def test_books_with_entries_left_out(self):
        source = random.Random(283)
        for hall in drawn_books(284, 150):
            books = [entry for entry in hall.books if source.random() < 0.8]
            found = bills(books)
            self.assertEqual(found, plain_bills(books), books)
            self.assertEqual(sum(found.values()), total(books))
            self.assertEqual(found, bills(tuple(books)))

    def test_stops_and_starts(self):
        books = [(0, "start", "m", None, 3), (0, "idle", "m", None, 1), (2, "start", "m", None, 3), (2, "work", "m", "a", 1)]
        self.assertEqual(bills(books), {None: 4, "a": 4})
        # As above, but no tick lies between the two: the further start is what parts them.
        books = [(0, "start", "m", None, 3), (0, "idle", "m", None, 1), (1, "start", "m", None, 3), (1, "work", "m", "a", 1)]
        self.assertEqual(bills(books), {None: 4, "a": 4})
        books = [(0, "start", "m", None, 3), (0, "idle", "m", None, 1), (1, "work", "m", "a", 1)]
        self.assertEqual(bills(books), {"a": 5})
        books = [(0, "start", "m", None, 3), (0, "idle", "m", None, 1), (1, "idle", "m", None, 1)]
        self.assertEqual(bills(books), {None: 5})

    def test_gaps(self):
        idle = lambda t: (t, "idle", "m", None, 1)
        work = lambda t, name: (t, "work", "m", name, 1)
        self.assertEqual(bills([idle(0), idle(1), work(2, "a")]), {"a": 3})
        self.assertEqual(bills([idle(0), idle(2), work(3, "a")]), {None: 1, "a": 2})
        self.assertEqual(bills([idle(0), work(2, "a"), idle(3), work(5, "b"), idle(6)]), {None: 3, "a": 1, "b": 1})
        self.assertEqual(bills([(0, "start", "m", None, 9), work(2, "a")]), {None: 9, "a": 1})
        self.assertEqual(bills([(1, "start", "m", None, 9), work(2, "a")]), {"a": 10})

    def test_machines_by_themselves(self):
        books = [(0, "idle", "m", None, 1), (0, "work", "n", "a", 1), (1, "work", "m", "b", 1), (1, "idle", "n", None, 1)]
        self.assertEqual(bills(books), {"a": 1, "b": 2, None: 1})

    def test_nothing_is_changed(self):
        books = list(EXAMPLE)
        for call in (total, machine_costs, bills, lambda told: tick_costs(told, 6)):
            self.assertEqual(call(books), call(EXAMPLE))
        self.assertEqual(books, EXAMPLE)
        self.assertIsNot(bills(books), bills(books))
        self.assertIsNot(machine_costs(books), machine_costs(books))


if __name__ == "__main__":
    unittest.main()
