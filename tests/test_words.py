"""Names, integers and numbers."""

import unittest

from wakedenough.words import is_integer, is_name, is_number

NAMES = ["a", "z", "a0", "z9", "abcdefghijkl", "a23456789012", "needs", "sheet", "x"]

NO_NAMES = ["", "A", "aB", "0", "9a", "a b", " a", "a ", "a\n", "a\t", "a_", "_a", "a-", "{", "`", "a{", "a/", "a:",
            "abcdefghijklm", "a234567890123", "a" * 1000, None, True, False, 0, 1, (), ("a",), ["a"], {"a": 1}]

INTEGERS_BELOW_0 = [-1, -5, -10 ** 40]
NUMBERS = [0, 1, 2, 10 ** 12, 10 ** 40]
NO_INTEGERS = [True, False, None, "", "1", "a", (), (1,), [], [1], {}, {1: 1}]


class Words(unittest.TestCase):
    def test_names(self):
        for value in NAMES:
            self.assertIs(is_name(value), True, value)

    def test_no_names(self):
        for value in NO_NAMES:
            self.assertIs(is_name(value), False, value)

    def test_each_sign_in_a_name(self):
        for code in range(128):
            sign = chr(code)
            letter = "a" <= sign <= "z"
            self.assertIs(is_name(sign), letter, code)
            self.assertIs(is_name("b" + sign), letter or "0" <= sign <= "9", code)

    def test_integers(self):
        for value in INTEGERS_BELOW_0 + NUMBERS:
            self.assertIs(is_integer(value), True, value)
        for value in NO_INTEGERS:
            self.assertIs(is_integer(value), False, value)

    def test_numbers(self):
        for value in NUMBERS:
            self.assertIs(is_number(value), True, value)
        for value in INTEGERS_BELOW_0 + NO_INTEGERS:
            self.assertIs(is_number(value), False, value)


if __name__ == "__main__":
    unittest.main()
