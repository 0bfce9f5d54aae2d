"""Sheets: what is one, the first wrong part of what is none, and what stands on one."""

import unittest

from wakedenough.errors import BadTree, UnknownName
from wakedenough.sheets import check_numbers, check_rule, check_sheet, check_slots
from wakedenough.sheets import names_of, part_named, slot_cost

NO_TUPLES = [None, True, 0, "", "ab", [], [1, 2], {}, {1: 2}]
NO_INTEGERS = [None, True, False, "1", (), (1,), [1], {}]
NO_NUMBERS = NO_INTEGERS + [-1, -10 ** 40]

SLOTS = ((2, 5, 2, (1, 1, 4)), (2, 2, 2, ()), (0, 3, 6, (-3, -3, 0)))
RULE = (2, (((0, 1), (1, 0), (2, 1)), ((0, 0), (0, 0), (2, 2)), ((2, 0), (2, 1), (2, 2))))
PARTS = (("needs", "a", (3, 0, 1)), ("row", "b", ()), ("prices", "c1", (7,)), ("slots", "d", SLOTS),
         ("rule", "e", RULE), ("needs", "needs", ()), ("slots", "f", ()))
SHEET = (3, 0, PARTS)


class Cases(unittest.TestCase):
    def check_path(self, check, value, path):
        with self.assertRaises(BadTree) as caught:
            check(value)
        self.assertEqual(caught.exception.path, path, value)
        self.assertIs(type(caught.exception.path), tuple)


class Numbers(Cases):
    def test_tuples_of_numbers(self):
        for value in ((), (0,), (1, 2, 3), (10 ** 40,), (0,) * 5000):
            self.assertIsNone(check_numbers(value))

    def test_no_tuples(self):
        for value in NO_TUPLES:
            self.check_path(check_numbers, value, ())

    def test_no_numbers(self):
        for value in NO_NUMBERS:
            self.check_path(check_numbers, (value,), (0,))
            self.check_path(check_numbers, (0, 5, value, value), (2,))


class Slots(Cases):
    def test_slot_rows(self):
        for value in ((), SLOTS, ((0, 0, 0, ()),), ((0, 2, 5, (-5, 0)),), ((1, 4, 0, (0, 0, 0)),)):
            self.assertIsNone(check_slots(value))

    def test_no_tuples(self):
        for value in NO_TUPLES:
            self.check_path(check_slots, value, ())
            self.check_path(check_slots, (value,), (0,))
            self.check_path(check_slots, SLOTS + (value,), (3,))
            self.check_path(check_slots, ((1, 2, 3, value),), (0, 3))

    def test_another_number_of_members(self):
        for value in ((), (1,), (1, 2, 3), (1, 1, 3, (), 0), [1, 1, 3, ()]):
            self.check_path(check_slots, (SLOTS[0], value), (1,))

    def test_need_most_and_first(self):
        for value in NO_NUMBERS:
            self.check_path(check_slots, ((value, 5, 2, (1, 1, 4)),), (0, 0))
            self.check_path(check_slots, ((2, value, 2, (1, 1, 4)),), (0, 1))
            self.check_path(check_slots, ((2, 5, value, (1, 1, 4)),), (0, 2))

    def test_most_below_the_need(self):
        self.check_path(check_slots, ((2, 1, 2, ()),), (0, 1))
        self.check_path(check_slots, ((10, 9, -1, None),), (0, 1))

    def test_another_number_of_slopes(self):
        for slopes in ((), (1, 1), (1, 1, 4, 5), (None,), [1, 1, 4]):
            self.check_path(check_slots, ((2, 5, 2, slopes),), (0, 3))
        self.check_path(check_slots, ((2, 2, 2, (0,)),), (0, 3))

    def test_slopes_that_are_no_integers(self):
        for value in NO_INTEGERS:
            self.check_path(check_slots, ((2, 5, 2, (value, 1, 4)),), (0, 3, 0))
            self.check_path(check_slots, ((2, 5, 2, (1, 1, value)),), (0, 3, 2))

    def test_a_slope_less_than_the_one_before(self):
        self.check_path(check_slots, ((2, 5, 2, (1, 0, -9)),), (0, 3, 1))
        self.check_path(check_slots, ((0, 3, 9, (-2, -2, -3)),), (0, 3, 2))

    def test_a_cost_below_0(self):
        self.check_path(check_slots, ((0, 1, 0, (-1,)),), (0, 3, 0))
        self.check_path(check_slots, ((0, 3, 5, (-3, -3, -9)),), (0, 3, 1))
        self.check_path(check_slots, ((0, 3, 8, (-3, -3, -3)),), (0, 3, 2))
        self.check_path(check_slots, ((0, 4, 8, (-3, -3, -3, "1")),), (0, 3, 2))
        self.assertIsNone(check_slots(((0, 3, 9, (-3, -3, -3)),)))

    def test_the_first_of_several(self):
        self.check_path(check_slots, ((-1, -1, -1, None),), (0, 0))
        self.check_path(check_slots, ((1, 0, -1, None),), (0, 1))
        self.check_path(check_slots, ((1, 2, -1, None),), (0, 2))
        self.check_path(check_slots, ((1, 2, 1, (-2,)), None), (0, 3, 0))
        self.check_path(check_slots, (SLOTS[0], (1, 2, 1, (None,)), (-1,)), (1, 3, 0))


class Rules(Cases):
    def test_rules(self):
        for value in (RULE, (1, (((0, 0), (1, 0)),)), (1, (((1, 0), (0, 0)),))):
            self.assertIsNone(check_rule(value))

    def test_no_tuples(self):
        for value in NO_TUPLES + [(), (1,), (1, (), ()), [1, (((0, 0), (1, 0)),)]]:
            self.check_path(check_rule, value, ())
        for value in NO_TUPLES + [()]:
            self.check_path(check_rule, (1, value), (1,))
        for value in NO_TUPLES + [(), ((0, 0),), ((0, 0), (0, 0), (0, 0))]:
            self.check_path(check_rule, (1, (value,)), (1, 0))
        for value in NO_TUPLES + [(), (0,), (0, 0, 0)]:
            self.check_path(check_rule, (1, ((value, (0, 0)),)), (1, 0, 0))
            self.check_path(check_rule, (1, (((0, 0), value),)), (1, 0, 1))

    def test_most(self):
        for value in NO_NUMBERS + [0]:
            self.check_path(check_rule, (value, (((0, 0),),)), (0,))

    def test_lists_for_tuples(self):
        self.check_path(check_rule, (1, [((0, 0), (1, 0))]), (1,))
        self.check_path(check_rule, (1, ([(0, 0), (1, 0)],)), (1, 0))
        self.check_path(check_rule, (1, (((0, 0), [1, 0]),)), (1, 0, 1))

    def test_x(self):
        for value in NO_NUMBERS + [2, 10 ** 9]:
            self.check_path(check_rule, (1, (((0, 0), (value, 0)),)), (1, 0, 1, 0))

    def test_late(self):
        for value in NO_NUMBERS + [2, 10 ** 9]:
            self.check_path(check_rule, (1, (((0, 1), (1, value)), ((0, 0), (1, 0)))), (1, 0, 1, 1))

    def test_there_are_as_many_states_as_members(self):
        self.check_path(check_rule, (1, (((0, 1), (1, 2)), None)), (1, 0, 1, 1))
        self.check_path(check_rule, (1, (((0, 1), (1, 1)), None)), (1, 1))

    def test_the_first_of_several(self):
        self.check_path(check_rule, (0, ()), (0,))
        self.check_path(check_rule, (1, (((2, 9), (2, 9)), None)), (1, 0, 0, 0))
        self.check_path(check_rule, (1, (((0, 9), None), None)), (1, 0, 0, 1))
        self.check_path(check_rule, (1, (((0, 1), (1, 0)), ((0, 0), (2, 9)))), (1, 1, 1, 0))


class Sheets(Cases):
    def test_sheets(self):
        for value in (SHEET, (1, 0, ()), (10 ** 12, 10 ** 12, PARTS[:1])):
            self.assertIsNone(check_sheet(value))

    def test_no_tuples(self):
        for value in NO_TUPLES + [(), (3, 0), (3, 0, (), ()), list(SHEET)]:
            self.check_path(check_sheet, value, ())
        for value in NO_TUPLES + [list(PARTS)]:
            self.check_path(check_sheet, (3, 0, value), (2,))
        for value in NO_TUPLES + [(), ("needs", "a"), ("needs", "a", (), ()), list(PARTS[0])]:
            self.check_path(check_sheet, (3, 0, (value,)), (2, 0))
            self.check_path(check_sheet, (3, 0, PARTS + (value,)), (2, 7))

    def test_b_and_w(self):
        for value in NO_NUMBERS + [0]:
            self.check_path(check_sheet, (value, 0, ()), (0,))
        for value in NO_NUMBERS:
            self.check_path(check_sheet, (1, value, ()), (1,))

    def test_words(self):
        for value in ["", "Needs", "need", "sheet", "most", None, 1, True, (), [], {}, ("needs",), ["needs"]]:
            self.check_path(check_sheet, (3, 0, ((value, "a", ()),)), (2, 0, 0))

    def test_names(self):
        for value in ["", "A", "1a", "a b", "abcdefghijklm", None, 1, True, (), [], {}, ("a",), ["a"]]:
            self.check_path(check_sheet, (3, 0, (PARTS[0], ("needs", value, ()))), (2, 1, 1))

    def test_a_name_twice(self):
        for part in PARTS:
            self.check_path(check_sheet, (3, 0, PARTS + (("row", part[1], ()),)), (2, 7, 1))

    def test_values(self):
        for word in ("needs", "row", "prices"):
            for value in NO_TUPLES:
                self.check_path(check_sheet, (3, 0, ((word, "a", value),)), (2, 0, 2))
            for value in NO_NUMBERS:
                self.check_path(check_sheet, (3, 0, PARTS[1:] + ((word, "a", (0, value)),)), (2, 6, 2, 1))
        self.check_path(check_sheet, (3, 0, (("slots", "a", [(0, 0, 0, ())]),)), (2, 0, 2))
        self.check_path(check_sheet, (3, 0, (("slots", "a", ((1, 2, 3, (-4,)),)),)), (2, 0, 2, 0, 3, 0))
        self.check_path(check_sheet, (3, 0, (("rule", "a", (1, (((0, 0), (1, 1)),))),)), (2, 0, 2, 1, 0, 1, 1))

    def test_the_first_of_several(self):
        self.check_path(check_sheet, (0, -1, None), (0,))
        self.check_path(check_sheet, (1, -1, None), (1,))
        self.check_path(check_sheet, (1, 0, (("x", "", None), None)), (2, 0, 0))
        self.check_path(check_sheet, (1, 0, (("row", "", None), None)), (2, 0, 1))
        self.check_path(check_sheet, (1, 0, (("row", "a", None), None)), (2, 0, 2))
        self.check_path(check_sheet, (1, 0, (("row", "a", ()), ("row", "a", (-1,)))), (2, 1, 1))


class Parts(unittest.TestCase):
    def test_slot_cost(self):
        self.assertEqual([slot_cost(SLOTS[0], x) for x in range(2, 6)], [2, 3, 4, 8])
        self.assertEqual(slot_cost(SLOTS[1], 2), 2)
        self.assertEqual([slot_cost(SLOTS[2], x) for x in range(4)], [6, 3, 0, 0])

    def test_slot_cost_beyond_the_slot(self):
        for slot in SLOTS:
            for x in (slot[0] - 1, slot[0] - 2, -1, -10 ** 30, slot[1] + 1, slot[1] + 2, 10 ** 30):
                self.assertIsNone(slot_cost(slot, x))

    def test_part_named(self):
        for part in PARTS:
            self.assertEqual(part_named(SHEET, part[1]), part)

    def test_unknown_names(self):
        for name in ["", "g", "A", "a ", "row", None, 0, True, (), ("a",), [], ["a"], {}, PARTS[0]]:
            with self.assertRaises(UnknownName) as caught:
                part_named(SHEET, name)
            self.assertIs(caught.exception.name, name)
        self.assertRaises(UnknownName, part_named, (1, 0, ()), "a")

    def test_names_of(self):
        found = {word: names_of(SHEET, word) for word in ("needs", "row", "prices", "slots", "rule")}
        self.assertEqual(found, {"needs": ["a", "needs"], "row": ["b"], "prices": ["c1"], "slots": ["d", "f"],
                                 "rule": ["e"]})
        self.assertEqual(names_of((1, 0, ()), "needs"), [])
        self.assertEqual(names_of((1, 0, (("row", "z", ()), ("row", "a", ()), ("row", "m", ()))), "row"), ["z", "a", "m"])

    def test_names_are_new(self):
        names = names_of(SHEET, "needs")
        names.append("other")
        self.assertEqual(names_of(SHEET, "needs"), ["a", "needs"])


if __name__ == "__main__":
    unittest.main()
