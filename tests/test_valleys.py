"""Layers, gaps and valleys of rows."""

import random
import time
import unittest

import helper
from wakedenough.valleys import gaps, layer, valleys

Z = (2, 0, 0, 3, 1, 2)


class Layers(unittest.TestCase):
    def test_z(self):
        self.assertEqual([layer(Z, k) for k in (1, 2, 3, 4)], [(1, 0, 0, 1, 1, 1), (1, 0, 0, 1, 0, 1), (0, 0, 0, 1, 0, 0),
                                                               (0,) * 6])

    def test_layers(self):
        self.assertEqual(layer((), 1), ())
        self.assertEqual(layer((10 ** 9, 10 ** 9 - 1), 10 ** 9), (1, 0))
        for row in helper.small_need_rows(4, 3):
            for k in range(1, 5):
                found = layer(row, k)
                self.assertEqual(found, tuple(int(x >= k) for x in row))
                self.assertEqual([type(x) for x in found], [int] * len(row))


class Gaps(unittest.TestCase):
    def test_z(self):
        self.assertEqual([gaps(Z, k) for k in (1, 2, 3, 4)], [[(1, 2)], [(1, 2), (4, 1)], [], []])

    def test_all_small_rows(self):
        for row in helper.small_need_rows(6, 2):
            for k in (1, 2, 3):
                self.assertEqual(gaps(row, k), helper.plain_gaps(row, k), row)

    def test_ticks_ahead_of_the_first_and_behind_the_last_are_no_gaps(self):
        self.assertEqual(gaps((0, 0, 1, 0, 0, 0, 1, 0), 1), [(3, 3)])
        self.assertEqual(gaps((0, 0, 0), 1), [])
        self.assertEqual(gaps((1, 1), 1), [])
        self.assertEqual(gaps((), 1), [])


class Valleys(unittest.TestCase):
    def test_z(self):
        self.assertEqual(valleys(Z), [(1, 2, 0, 2), (4, 1, 1, 2)])

    def test_some(self):
        for needs, found in [
            ((), []), ((5,), []), ((0, 0), []), ((1, 0, 1), [(1, 1, 0, 1)]), ((1, 1, 1), []),
            ((3, 0, 1, 0, 2), [(1, 1, 0, 1), (1, 3, 1, 2), (3, 1, 0, 1)]),
            ((2, 1, 0, 1, 2), [(1, 3, 1, 2), (2, 1, 0, 1)]),
            ((2, 0, 2, 0, 2), [(1, 1, 0, 2), (3, 1, 0, 2)]),
            ((0, 1, 2, 1, 0), []), ((10 ** 9, 0, 10 ** 9), [(1, 1, 0, 10 ** 9)]),
        ]:
            self.assertEqual(valleys(needs), found)

    def test_all_small_rows(self):
        for high, ticks in ((1, 8), (2, 7), (3, 6)):
            for needs in helper.small_need_rows(ticks, high):
                self.assertEqual(valleys(needs), helper.plain_valleys(needs), needs)

    def test_longer_rows(self):
        source = random.Random(3)
        for high in (2, 5, 40, 10 ** 9):
            for _ in range(30):
                needs = tuple(source.randrange(high + 1) for _ in range(40))
                self.assertEqual(valleys(needs), helper.plain_valleys(needs))

    def test_each_gap_is_told_by_one_valley(self):
        for needs in helper.small_need_rows(6, 3):
            found = valleys(needs)
            for k in range(1, 4):
                told = [valley[:2] for valley in found if valley[2] < k <= valley[3]]
                self.assertEqual(sorted(told), gaps(needs, k))

    def test_there_are_fewer_than_ticks(self):
        for needs in helper.small_need_rows(7, 2):
            self.assertLessEqual(len(valleys(needs)), max(0, len(needs) - 1))

    def test_returned_lists_are_new(self):
        valleys(Z).append(0)
        gaps(Z, 2).append(0)
        self.assertEqual(valleys(Z), [(1, 2, 0, 2), (4, 1, 1, 2)])
        self.assertEqual(gaps(Z, 2), [(1, 2), (4, 1)])

    def test_long_rows_in_good_time(self):
        begun = time.perf_counter()
        down = tuple(range(2500, 0, -1))
        found = valleys(down + down[::-1])
        self.assertEqual(found, [(k, 5000 - 2 * k, 2500 - k, 2501 - k) for k in range(1, 2499 + 1)])
        self.assertEqual(len(valleys((1, 0) * 2500)), 2499)
        self.assertEqual(valleys(down * 2)[0], (1, 2499, 2499, 2500))
        self.assertEqual(valleys((7,) * 5000), [])
        self.assertEqual(len(gaps((10 ** 9, 0) * 2500, 10 ** 9)), 2499)
        self.assertLess(time.perf_counter() - begun, 10)


if __name__ == "__main__":
    unittest.main()
