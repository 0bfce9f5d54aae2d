"""Menus: what is one, how great it is, and the places through which call rows lead."""

import itertools
import math
import random
import unittest

import helper
from helper import W
from wakedenough.errors import BadTree
from wakedenough.menus import check_menu, first_place, menu_size, steps_behind, turn
from wakedenough.places import least_by_steps, ready_steps
from wakedenough.works import least_cost


def plain_path(value):
    """The path of the first wrong part of what should be a menu, or None, by the words of S8.1 and S1.2."""
    if type(value) is not tuple or not value:
        return ()
    for k, slot in enumerate(value):
        path = slot_path(slot)
        if path is not None:
            return (k,) + path
    for k, slot in enumerate(value):
        if slot[1] == 0 or slot[1] != value[0][1]:
            return (k, 1)
        if slot in value[:k]:
            return (k,)
    return None


def is_integer(value):
    return type(value) is int


def slot_path(slot):
    if type(slot) is not tuple or len(slot) != 4:
        return ()
    need, most, first, slopes = slot
    if not is_integer(need) or need < 0:
        return (0,)
    if not is_integer(most) or most < need:
        return (1,)
    if not is_integer(first) or first < 0:
        return (2,)
    if type(slopes) is not tuple or len(slopes) != most - need:
        return (3,)
    for k, slope in enumerate(slopes):
        if not is_integer(slope) or (k and slope < slopes[k - 1]) or first + sum(slopes[:k + 1]) < 0:
            return (3, k)
    return None


class Check(unittest.TestCase):
    def path(self, value):
        try:
            self.assertIsNone(check_menu(value))
        except BadTree as error:
            return error.path
        return None

    def test_menus(self):
        for most in range(1, 6):
            self.assertIsNone(self.path(helper.plain_menu(most)))
        self.assertIsNone(self.path(W))
        self.assertIsNone(self.path((W[0],)))
        self.assertIsNone(self.path(((0, 200, 0, (0,) * 200), (200, 200, 1000, ()))))

    def test_no_tuple_with_members(self):
        for value in helper.ANYTHING:
            self.assertEqual(self.path(value), plain_path(value), value)
            self.assertIsNotNone(self.path(value))
        self.assertEqual([self.path(value) for value in [(), [], list(W), {}, None, W[0]]], [(), (), (), (), (), (0,)])

    def test_wrong_slots(self):
        for k, slot in enumerate([7, (0, 1, 1), (0, 1, 1, [-1]), [0, 1, 1, (-1,)]]):
            self.assertEqual(self.path((W[0], W[1], slot)), (2, 3) if k == 2 else (2,))
        for slot, path in [((True, 1, 1, ()), (1, 0)), ((2, 1, 1, ()), (1, 1)), ((0, 1, -1, (1,)), (1, 2)), ((0, 1, 1, (1, 1)), (1, 3)),
                           ((0, 1, 1, (-2,)), (1, 3, 0)), ((0, 1, 1, (True,)), (1, 3, 0)), ((0, 2, 1, (1, 0)), (1, 3, 1))]:
            self.assertEqual(self.path((W[0], slot)), path)

    def test_mosts(self):
        self.assertEqual(self.path(((0, 0, 0, ()),)), (0, 1))
        self.assertEqual(self.path(((0, 0, 0, ()), (0, 0, 1, ()))), (0, 1))
        self.assertEqual(self.path((W[0], (0, 2, 0, (1, 1)))), (1, 1))
        self.assertEqual(self.path((W[0], (0, 0, 0, ()))), (1, 1))
        self.assertEqual(self.path(((0, 0, 0, ()),) + W), (0, 1))

    def test_twice(self):
        self.assertEqual(self.path(W + (W[0],)), (2,))
        self.assertEqual(self.path((W[1], W[1])), (1,))
        self.assertEqual(self.path((W[0], W[1], W[0], W[1])), (2,))

    def test_several_at_once(self):
        self.assertEqual(self.path((W[0], W[0], (0, 2, 0, (1, 1)))), (1,))
        self.assertEqual(self.path((W[0], (0, 2, 0, (1, 1)), W[0])), (1, 1))
        self.assertEqual(self.path((W[0], W[0], (0, 2, 0, (1,)))), (2, 3))
        self.assertEqual(self.path(((0, 0, 0, ()), (0, 0, 0, ()), None)), (2,))
        self.assertEqual(self.path((W[0], (0, 2, 0, (1, 1)), (0, 2, 0, (1, 1)))), (1, 1))

    def test_tuples_of_all_sorts_against_the_words(self):
        source = random.Random(221)
        parts = [W[0], W[1], (1, 1, 0, ()), (0, 0, 3, ()), (0, 2, 0, (0, 1)), (1, 2, 5, (-5,)), (0, 1, 1, (-2,)), (0, 1, True, (0,)), 5, None, [W[0]]]
        for _ in range(3000):
            value = tuple(source.choice(parts[:source.choice((3, 6, 11))]) for _ in range(source.randrange(1, 5)))
            self.assertEqual(self.path(value), plain_path(value), value)


class Sizes(unittest.TestCase):
    def test_small_ones(self):
        for most in range(1, 5):
            for b in range(1, 6):
                menu = helper.plain_menu(most)
                self.assertEqual(menu_size(menu, b), len(helper.plain_menu_places(menu, b)))

    def test_w(self):
        self.assertEqual([menu_size(W, b) for b in (1, 2, 149, 150, 10 ** 6)], [4, 6, 300, 302, 2 * (10 ** 6 + 1)])

    def test_great_ones(self):
        menu = ((0, 200, 0, (0,) * 200),)
        self.assertEqual(menu_size(menu, 10 ** 6), 201 * math.comb(10 ** 6 + 200, 200))


class Steps(unittest.TestCase):
    def test_w(self):
        self.assertEqual(steps_behind((3,), W[0], 3), (1, (2,)))
        self.assertEqual(steps_behind((0,), W[0], 3), (0, (0,)))
        self.assertEqual(steps_behind((2,), W[1], 3), (0, (3,)))
        self.assertEqual(steps_behind((3,), W[1], 3), (0, (3,)))

    def test_first_places(self):
        self.assertEqual(first_place(W, 3), (0, (3,)))
        self.assertEqual(first_place(helper.plain_menu(3), 10 ** 6), (0, (10 ** 6,) * 3))

    def test_against_the_least_over_all_numbers(self):
        source = random.Random(222)
        for most, b in [(1, 1), (1, 4), (2, 1), (2, 3), (3, 2), (4, 2)]:
            for greatest in (1, 2, 9):
                menu = helper.random_menu(source, most, 3, greatest)
                for place in helper.plain_menu_places(menu, b):
                    for call, slot in enumerate(menu):
                        for x in helper.numbers_of(slot):
                            price, growth, late = helper.plain_turn(menu, b, place, call, x)
                            self.assertEqual(turn(menu, b, place, call, x), (price, growth, late), (menu, b, place, call, x))
                            self.assertEqual(steps_behind(place[1], slot, b), (growth, late[1]))
                            self.assertGreaterEqual(growth, 0)
                            self.assertIn(late, helper.plain_menu_places(menu, b))

    def test_some_slots(self):
        # One with a need, one with slopes far below 0 and above b, one that has just its need.
        self.assertEqual(steps_behind((1, 2, 4), (1, 3, 5, (-3, 7)), 4), (5 + 1 - 1, (0, 0, 4)))
        self.assertEqual(steps_behind((1, 2, 4), (3, 3, 5, ()), 4), (5 + 7, (0, 0, 0)))
        self.assertEqual(steps_behind((1, 2, 4), (0, 3, 2000, (-1000, 0, 1000)), 4), (2000 - 999, (0, 2, 4)))

    def test_what_rows_cost(self):
        source = random.Random(223)
        for k in range(60):
            most, b = source.randrange(1, 4), source.randrange(1, 5)
            menu = helper.random_menu(source, most, 1 + k % 4, 4)
            calls = [source.randrange(len(menu)) for _ in range(source.randrange(9))]
            row = [source.choice(list(helper.numbers_of(menu[call]))) for call in calls]
            place, paid, grown = first_place(menu, b), 0, 0
            for call, x in zip(calls, row):
                price, growth, place = turn(menu, b, place, call, x)
                paid, grown = paid + price, grown + growth
            slots = tuple(menu[call] for call in calls)
            self.assertEqual(paid, helper.plain_cost(slots, b, row))
            self.assertEqual(grown, least_cost(slots, b))
            if len(slots) <= 5 and slots:
                self.assertEqual(grown, min(helper.plain_cost(slots, b, each) for each in helper.rows_of(slots)))

    def test_plain_slots_do_as_needs(self):
        # S7.2: for needs alone a step above the need is one more than it was.
        for needs in itertools.product(range(3), repeat=4):
            menu, steps, grown = helper.plain_menu(2), (2, 2), 0
            for need in needs:
                growth, steps = steps_behind(steps, menu[need], 2)
                grown += growth
            self.assertEqual(steps, ready_steps(2, 2, needs))
            self.assertEqual(grown, least_by_steps(2, needs))


if __name__ == "__main__":
    unittest.main()
