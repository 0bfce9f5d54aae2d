"""The sight runner's runs on rows of needs, and what they cost."""

import random
import time
import unittest

import helper
from wakedenough.layers import least_by_layers
from wakedenough.runners import SightRunner, run
from wakedenough.sight import sight_cost, sight_room, sight_row, tails
from wakedenough.valleys import valleys

N = (2, 0, 1, 0, 0, 0, 1)
SIGHTS = [(b, w) for b in range(1, 6) for w in range(b)] + [(50, 0), (50, 20), (50, 49)]


def plain_tails(needs):
    """The tails of a need row, by looking at all ticks at which one may begin."""
    found = []
    for begin in range(1, len(needs)):
        rest = needs[begin:]
        if needs[begin - 1] > max(rest):
            found.append((begin, len(rest), max(rest), needs[begin - 1]))
    return found


class Tails(unittest.TestCase):
    def test_some(self):
        for needs, found in [((), []), ((5,), []), ((5, 5), []), ((0, 0), []), (N, [(1, 6, 1, 2)]), ((3, 1, 0), [(1, 2, 1, 3), (2, 1, 0, 1)]),
                             ((3, 1, 1, 0, 0), [(1, 4, 1, 3), (3, 2, 0, 1)]), ((0, 1), []), ((1, 2, 0), [(2, 1, 0, 2)])]:
            self.assertEqual(tails(needs), found)

    def test_all_small_rows(self):
        for high, ticks in ((1, 7), (2, 6), (3, 5)):
            for needs in helper.small_need_rows(ticks, high):
                self.assertEqual(tails(needs), plain_tails(needs))

    def test_the_list_is_new(self):
        tails(N).append(0)
        self.assertEqual(tails(N), [(1, 6, 1, 2)])


class Runs(unittest.TestCase):
    def check_run(self, needs, b, w):
        """Hold row, cost and room against the words of S5.2 and S5.4."""
        row = helper.plain_sight(helper.looks_of(needs, w), b, w)
        self.assertEqual(sight_row(needs, b, w), row, (needs, b, w))
        cost, least = helper.need_row_cost(row, b), least_by_layers(needs, b)
        self.assertEqual(sight_cost(needs, b, w), cost, (needs, b, w))
        room = sight_room(needs, b, w)
        self.assertEqual(room, (2 * b - w) * least - (b + 1) * cost)
        self.assertGreaterEqual(room, 0)
        self.assertTrue(all(x >= need for x, need in zip(row, needs)))
        if w == b - 1:
            self.assertEqual(cost, least)

    def test_n(self):
        self.assertEqual([valleys(N), tails(N)], [[(1, 1, 0, 1), (3, 3, 0, 1)], [(1, 6, 1, 2)]])
        self.assertEqual(sight_row(N, 3, 0), (2, 2, 2, 1, 1, 0, 1))
        self.assertEqual([sight_cost(N, 3, 0), least_by_layers(N, 3), sight_room(N, 3, 0)], [18, 14, 12])
        for b, w in SIGHTS:
            self.check_run(N, b, w)

    def test_no_ticks(self):
        for b, w in SIGHTS:
            self.assertEqual([sight_row((), b, w), sight_cost((), b, w), sight_room((), b, w)], [(), 0, 0])

    def test_all_small_rows(self):
        for high, ticks in ((1, 8), (2, 6), (3, 4)):
            for needs in helper.small_need_rows(ticks, high):
                for b, w in SIGHTS:
                    self.check_run(needs, b, w)

    def test_long_gaps_and_tails(self):
        source = random.Random(41)
        for _ in range(60):
            needs = []
            for _ in range(source.randrange(1, 8)):
                needs += [source.randrange(1, 5)] * source.randrange(3) + [source.randrange(2)] * source.randrange(12)
            for b, w in SIGHTS:
                self.check_run(tuple(needs), b, w)

    def test_up_to_a_tick(self):
        for needs in helper.small_need_rows(6, 2):
            for b, w in [(1, 0), (2, 1), (3, 0), (3, 1), (4, 2)]:
                row = sight_row(needs, b, w)
                for t in range(len(needs)):
                    paid = helper.need_row_cost(row[:t + 1], b)
                    self.assertLessEqual((b + 1) * paid, (2 * b - w) * least_by_layers(needs[:t + w + 1], b))

    def test_against_the_least_of_the_row_so_far_this_need_not_hold(self):
        row = sight_row((1, 0, 1), 2, 1)
        self.assertEqual(helper.need_row_cost(row[:2], 2), 4)
        self.assertEqual(least_by_layers((1, 0), 2), 3)

    def test_rows_without_room(self):
        for b, w in SIGHTS:
            for laps in (1, 2, 5):
                for high in (1, 7):
                    needs = ((high,) + (0,) * b) * laps
                    self.assertEqual(sight_room(needs, b, w), 0, (b, w))
                    self.check_run(needs, b, w)
        self.assertEqual(sight_room((1, 0, 1, 0), 2, 0), 2)

    def test_great_rows_in_good_time(self):
        begun = time.perf_counter()
        down = tuple(range(10 ** 6, 10 ** 6 - 2500, -1))
        rows = [down + down[::-1], (10 ** 6, 0) * 2500, ((10 ** 6,) + (0,) * 9) * 500, down[::-1] + down, (7,) * 5000]
        for needs in rows:
            for b, w in [(1, 0), (10, 4), (2500, 1000), (10 ** 6, 0), (10 ** 6, 10 ** 6 - 1)]:
                row = sight_row(needs, b, w)
                self.assertEqual(sight_cost(needs, b, w), helper.need_row_cost(row, b))
                self.assertGreaterEqual(sight_room(needs, b, w), 0)
        self.assertEqual(run(SightRunner(10, 4), rows[0], 4), sight_row(rows[0], 10, 4))
        self.assertLess(time.perf_counter() - begun, 40)


if __name__ == "__main__":
    unittest.main()
