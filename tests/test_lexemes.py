"""Lexemes: each sort, where they end, and the first character that begins none."""

import itertools
import unittest

import helper
from wakedenough.errors import BadText
from wakedenough.lexemes import lexemes


def plain(text):
    return [lexeme for _, lexeme, _ in lexemes(text)]


class Lexemes(unittest.TestCase):
    def check_bad(self, text, place):
        with self.assertRaises(BadText) as caught:
            lexemes(text)
        self.assertEqual(caught.exception.place, place, text)

    def test_nothing(self):
        for text in ("", " ", "\n", " \n \n\n  "):
            self.assertEqual(lexemes(text), [])

    def test_each_sort(self):
        self.assertEqual(lexemes("needs a1 3 x 20"), [("word", "needs", 0), ("word", "a1", 6), ("numeral", "3", 9),
                                                      ("word", "x", 11), ("numeral", "20", 13)])
        for sign in ("{", "}", "[", "]", ";", ":", ",", "-", "->"):
            self.assertEqual(lexemes(sign), [("sign", sign, 0)])

    def test_places_count_blanks_and_line_feeds(self):
        self.assertEqual(lexemes(" \n a\n\n  1 ;\n"), [("word", "a", 3), ("numeral", "1", 8), ("sign", ";", 10)])

    def test_nothing_stands_between(self):
        self.assertEqual(plain("a{b}[1]c;d:2,3-4->5"), ["a", "{", "b", "}", "[", "1", "]", "c", ";", "d", ":", "2", ",",
                                                        "3", "-", "4", "->", "5"])

    def test_the_longest_sign(self):
        self.assertEqual(plain("->"), ["->"])
        self.assertEqual(plain("-->"), ["-", "->"])
        self.assertEqual(plain("->->"), ["->", "->"])
        self.assertEqual(plain("--"), ["-", "-"])
        self.assertEqual(plain("-1"), ["-", "1"])
        self.assertEqual(lexemes("1-->2"), [("numeral", "1", 0), ("sign", "-", 1), ("sign", "->", 2),
                                            ("numeral", "2", 4)])

    def test_a_lone_greater_sign(self):
        self.check_bad(">", 0)
        self.check_bad("- >", 2)
        self.check_bad("->>", 2)
        self.check_bad("a ->b > c", 6)

    def test_words_go_on_with_letters_and_digits(self):
        self.assertEqual(plain("x4"), ["x4"])
        self.assertEqual(plain("a1b2 c"), ["a1b2", "c"])

    def test_words_of_12_and_13(self):
        for word in ("abcdefghijkl", "a23456789012", "a00000000000"):
            self.assertEqual(lexemes(" " + word + " b"), [("word", word, 1), ("word", "b", 14)])
            self.check_bad(" " + word + "m b", 1)
            self.check_bad(" " + word + "0 b", 1)
        self.check_bad("a" * 50000, 0)

    def test_a_word_behind_a_numeral_is_as_long(self):
        self.assertEqual(plain("7abcdefghijkl"), ["7", "abcdefghijkl"])
        self.check_bad("7abcdefghijklm", 1)

    def test_numerals(self):
        self.assertEqual(plain("007"), ["0", "0", "7"])
        self.assertEqual(lexemes("007"), [("numeral", "0", 0), ("numeral", "0", 1), ("numeral", "7", 2)])
        self.assertEqual(plain("3x4"), ["3", "x4"])
        self.assertEqual(plain("0x4"), ["0", "x4"])
        self.assertEqual(plain("10"), ["10"])
        self.assertEqual(plain("100 020"), ["100", "0", "20"])

    def test_numerals_of_any_length(self):
        for many in (41, 4300, 4301, 50000):
            self.assertEqual(lexemes("9" * many + "a"), [("numeral", "9" * many, 0), ("word", "a", many)])

    def test_no_lexeme(self):
        for sign in "\t!\"#$%&'()*+./<=>?@^_`|~\\ABZ":
            self.check_bad(sign, 0)
            self.check_bad("a 1" + sign, 3)
            self.check_bad(" \n" + sign + " a", 2)

    def test_a_tab_is_no_blank(self):
        self.check_bad("a\tb", 1)
        self.check_bad(" \t", 1)

    def test_all_short_texts(self):
        for many in range(5):
            for signs in itertools.product("a0 7->,\tA\n", repeat=many):
                text = "".join(signs)
                found, bad = helper.plain_lexemes(text)
                if bad is None:
                    self.assertEqual(lexemes(text), found)
                else:
                    self.check_bad(text, bad)

    def test_kinds(self):
        found = lexemes("a 1 ;")
        self.assertIs(type(found), list)
        for lexeme in found:
            self.assertEqual([type(member) for member in lexeme], [str, str, int])
        found.append("more")
        self.assertEqual(len(lexemes("a 1 ;")), 3)


if __name__ == "__main__":
    unittest.main()
