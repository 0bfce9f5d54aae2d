"""Texts of sheets and of rows: what is written, what is read, and the first wrong place."""

import random
import unittest

import helper
from wakedenough.errors import BadText, BadTree, TooGreat
from wakedenough.sheets import check_sheet
from wakedenough.sheettexts import read_runs, read_sheet, runs_text, sheet_text

SHEET = (3, 1, (
    ("needs", "a", (3, 3, 3, 0, 1)),
    ("needs", "none", ()),
    ("row", "row", (0, 0, 12)),
    ("prices", "x", (7,)),
    ("slots", "s", ((2, 5, 2, (1, 1, 4)), (2, 2, 2, ()), (0, 2, 9, (-3, 0)))),
    ("slots", "empty", ()),
    ("rule", "r", (1, (((0, 0), (1, 0)),))),
    ("rule", "most", (2, (((0, 1), (1, 0), (2, 1)), ((2, 0), (2, 0), (2, 0))))),
))

LINES = [
    "sheet {",
    "start 3;",
    "sight 1;",
    "needs a 3 x 3, 0, 1;",
    "needs none;",
    "row row 0 x 2, 12;",
    "prices x 7;",
    "slots s [2 5 2: 1 1 4] [2 2 2:] [0 2 9: -3 0];",
    "slots empty;",
    "rule r most 1 {0 -> 0, 1 -> 0};",
    "rule most most 2 {0 -> 1, 1 -> 0, 2 -> 1} {2 -> 0, 2 -> 0, 2 -> 0};",
    "}",
]

TEXT = "".join(line + "\n" for line in LINES)

# Lexemes that may be put anywhere into a text, to see where it becomes wrong.
STRANGE = ["sheet", "start", "sight", "needs", "row", "slots", "rule", "most", "x", "a", "0", "5", "{", "}", "[", "]",
           ";", ":", ",", "-", "->", "abcdefghijklm", ">", "\t", "9" * 40]


def with_part(line):
    return "sheet {\nstart 3;\nsight 1;\n" + line + "\n}\n"


class Cases(unittest.TestCase):
    def check_bad(self, read, text, place):
        with self.assertRaises(BadText) as caught:
            read(text)
        self.assertEqual(caught.exception.place, place, text)

    def check_against(self, read, form, text):
        """Hold a reading against the plain way to find the first wrong place."""
        place = helper.first_wrong_place(text, form)
        if place is not None:
            self.check_bad(read, text, place)
            return
        try:
            read(text)
        except (TooGreat, BadTree):
            pass


class Writing(Cases):
    def test_the_lines(self):
        self.assertEqual(sheet_text(SHEET), TEXT)
        self.assertEqual(sheet_text((1, 0, ())), "sheet {\nstart 1;\nsight 0;\n}\n")

    def test_the_lines_of_the_document(self):
        def line(part):
            return sheet_text((1, 0, (part,))).split("\n")[3]
        self.assertEqual(line(("needs", "a", (3, 3, 3, 0, 1))), "needs a 3 x 3, 0, 1;")
        self.assertEqual(line(("needs", "a", ())), "needs a;")
        self.assertEqual(line(("slots", "s", ((2, 5, 2, (1, 1, 4)),))), "slots s [2 5 2: 1 1 4];")
        self.assertEqual(line(("slots", "s", ((2, 2, 2, ()),))), "slots s [2 2 2:];")
        self.assertEqual(line(("rule", "r", (1, (((0, 0), (1, 0)),)))), "rule r most 1 {0 -> 0, 1 -> 0};")

    def test_runs(self):
        self.assertEqual(runs_text(()), "")
        self.assertEqual(runs_text((0,)), "0")
        self.assertEqual(runs_text((5, 5)), "5 x 2")
        self.assertEqual(runs_text((1, 2, 1)), "1, 2, 1")
        self.assertEqual(runs_text((1, 1, 2, 1, 1, 1, 0, 0)), "1 x 2, 2, 1 x 3, 0 x 2")
        self.assertEqual(runs_text((10 ** 12,) * 5000), "1000000000000 x 5000")


class ReadingRuns(Cases):
    def test_what_is_told(self):
        for text, numbers in [
            ("", ()), (" \n", ()), ("0", (0,)), ("1, 2 ,3", (1, 2, 3)), ("3 x 4", (3, 3, 3, 3)), ("3x 4,5", (3,) * 4 + (5,)),
            ("7 x 0", ()), ("7 x 0, 1", (1,)), ("7 x 1", (7,)), ("2 x 2, 2", (2, 2, 2)), ("\n1\n,\n2\n", (1, 2)),
            ("9" * 40, (int("9" * 40),)),
        ]:
            self.assertEqual(read_runs(text), numbers)
            self.assertIs(type(read_runs(text)), tuple)

    def test_first_wrong_places(self):
        for text, place in [
            ("1 x -2", 4), ("1,", 2), ("1, ", 3), ("1 x", 3), ("1 x \n", 5), (",", 0), ("x", 0), ("1 2", 2), ("007", 1), ("3x4", 1),
            ("1 x 2 x 3", 6), ("1,,2", 2), ("-1", 0), ("1;", 1), ("1 abcdefghijklm", 2), ("1, >", 3), ("1 y >", 2),
            ("\t1", 0), ("1\t", 1), ("1 x 2,\n", 7), ("a", 0), ("1 x a", 4),
        ]:
            self.check_bad(read_runs, text, place)

    def test_numerals_of_any_length_behind_the_first_wrong_place(self):
        long = "9" * 5000
        self.check_bad(read_runs, "1 " + long, 2)
        self.check_bad(read_runs, "1 x -" + long, 4)
        self.check_bad(read_runs, "1 ; 3 x " + long, 2)
        self.check_bad(read_runs, "1, > " + long, 3)

    def test_too_great(self):
        self.assertEqual(read_runs("7 x 100000"), (7,) * 100000)
        self.assertEqual(read_runs("1 x 99999, 2"), (1,) * 99999 + (2,))
        self.assertEqual(read_runs("1 x 50000, 2 x 50000"), (1,) * 50000 + (2,) * 50000)
        for text in ("7 x 100001", "1 x 100000, 2", "2, 1 x 100000", "1 x 50001, 2 x 50000", "0 x " + "9" * 40):
            self.assertRaises(TooGreat, read_runs, text)

    def test_the_wrong_place_comes_first(self):
        self.check_bad(read_runs, "7 x 100001,", 11)
        self.check_bad(read_runs, "7 x " + "9" * 40 + " ;", 45)

    def test_all_short_texts_against_the_form(self):
        words = ["1", "0", "x", ",", "-", "a", "\t"]
        texts = [""]
        for _ in range(5):
            for text in texts:
                self.check_against(read_runs, helper.RUNS, text)
            texts = [text + " " + word for text in texts for word in words]

    def test_written_runs_are_read_back(self):
        for row in helper.small_need_rows(6, 2):
            self.assertEqual(read_runs(runs_text(row)), row)


class ReadingSheets(Cases):
    def test_a_written_sheet_is_read_back(self):
        check_sheet(SHEET)
        self.assertEqual(read_sheet(TEXT), SHEET)
        self.assertEqual(read_sheet("sheet {\nstart 1;\nsight 0;\n}\n"), (1, 0, ()))

    def test_many_sheets_are_read_back(self):
        source = random.Random(1)
        for _ in range(60):
            slots = tuple(helper.random_slot(source, 6, 4, 20) for _ in range(source.randrange(5)))
            row = tuple(source.randrange(3) for _ in range(source.randrange(9)))
            rule = (2, tuple(tuple((source.randrange(3), source.randrange(2)) for _ in range(3)) for _ in range(2)))
            parts = [("needs", "a", row), ("row", "b", row[1:]), ("prices", "c", row[2:]), ("slots", "d", slots),
                     ("rule", "e", rule)]
            source.shuffle(parts)
            sheet = (source.randrange(1, 9), source.randrange(9), tuple(parts[:source.randrange(6)]))
            check_sheet(sheet)
            self.assertEqual(read_sheet(sheet_text(sheet)), sheet)

    def test_a_great_sheet_is_read_back(self):
        row = tuple((k * k) % 7 for k in range(5000))
        slots = ((0, 200, 10 ** 12, tuple(range(-100, 100))),) * 40
        rule = (12, tuple(tuple((x, (s + x) % 40) for x in range(13)) for s in range(40)))
        sheet = (10 ** 12, 10 ** 12, (("row", "a", row), ("slots", "b", slots), ("rule", "c", rule)))
        check_sheet(sheet)
        self.assertEqual(read_sheet(sheet_text(sheet)), sheet)

    def test_blanks_may_stand_anywhere_or_be_left_out(self):
        text = "sheet{start 2;sight 0;slots s[0 1 5:- 3][0 0 0:];row a 1,2x 2;rule r most 1{0->0,1->0};needs b;}"
        told = (2, 0, (("slots", "s", ((0, 1, 5, (-3,)), (0, 0, 0, ()))), ("row", "a", (1, 2, 2)),
                       ("rule", "r", (1, (((0, 0), (1, 0)),))), ("needs", "b", ())))
        self.assertEqual(read_sheet(text), told)
        lexemes = [lexeme for _, lexeme, _ in helper.plain_lexemes(text)[0]]
        self.assertEqual(read_sheet("\n" + "\n  ".join(lexemes) + " \n"), told)

    def test_names_may_be_words_of_the_form(self):
        text = "sheet { start 1; sight 0; needs needs 1; row sheet; row x 2 x 2; rule most most 1 {0 -> 0, 1 -> 0}; }"
        self.assertEqual([part[1] for part in read_sheet(text)[2]], ["needs", "sheet", "x", "most"])

    def test_runs_of_no_times(self):
        self.assertEqual(read_sheet(with_part("row a 5 x 0, 6 x 2;")), (3, 1, (("row", "a", (6, 6)),)))

    def test_first_wrong_places(self):
        for text, place in [
            ("sheet { }", 8), ("sheet { start 1 }", 16), ("", 0), ("  \n", 3), ("sheets {", 0), ("sheet", 5), ("sheet start", 6),
            ("sheet { start 01;", 15), ("sheet { start -1;", 14), ("sheet { start 1; sight }", 23), ("sheet { start1;", 8),
            ("sheet { start 1; sight 0; }}", 27), ("sheet { start 1; sight 0; } x", 28), ("sheet { start 1; sight 0; ", 26),
            ("sheet { start 1; sight 0; rows a; }", 26), ("sheet { start 1; sight 0; needs ; }", 32),
            ("sheet { start 1; sight 0; needs 1; }", 32), ("sheet { start 1; sight 0; needs a 1 }", 36),
            ("sheet { start 1; sight 0; slots a 1; }", 34), ("sheet { start 1; sight 0; slots a [1 1]; }", 38),
            ("sheet { start 1; sight 0; slots a [1 2 3: -0]; }", 43),
            ("sheet { start 1; sight 0; slots a [1 2 3: - 0]; }", 44),
            ("sheet { start 1; sight 0; slots a [1 2 3: -00]; }", 43),
            ("sheet { start 1; sight 0; slots a [1 2 3: --1]; }", 43),
            ("sheet { start 1; sight 0; slots a [1 2 3: 1, 2]; }", 43),
            ("sheet { start 1; sight 0; slots a [1 2 -3:]; }", 39),
            ("sheet { start 1; sight 0; rule r most 1; }", 39), ("sheet { start 1; sight 0; rule r 1 {0 -> 0}; }", 33),
            ("sheet { start 1; sight 0; rule r most 1 {}; }", 41),
            ("sheet { start 1; sight 0; rule r most 1 {0 - > 0}; }", 43),
            ("sheet { start 1; sight 0; rule r most 1 {0 -> 0,}; }", 48),
            ("sheet { start 1; sight 0; rule r most 1 {0 -> 0}, {0 -> 0}; }", 48),
            ("sheet { start 1; sight 0; } >", 28), ("sheet { start 1; > ", 17), ("sheet { start 1; x > ", 17),
            ("sheet { start 1; sight 0; needs abcdefghijklm; }", 32),
        ]:
            self.check_bad(read_sheet, text, place)
            self.assertEqual(helper.first_wrong_place(text, helper.SHEET), place, text)

    def test_a_text_that_is_cut_anywhere(self):
        for many in range(len(TEXT) - 1):
            self.check_against(read_sheet, helper.SHEET, TEXT[:many])
            self.assertRaises(BadText, read_sheet, TEXT[:many])
        self.check_bad(read_sheet, TEXT[:-2], len(TEXT) - 2)
        self.check_bad(read_sheet, TEXT[:-2] + " \n ", len(TEXT) + 1)
        self.assertEqual(read_sheet(TEXT[:-1]), SHEET)

    def test_a_text_with_a_strange_lexeme(self):
        found = [lexeme for _, lexeme, _ in helper.plain_lexemes(TEXT)[0]]
        for k in range(len(found) + 1):
            for strange in STRANGE:
                for behind in (k, k + 1):
                    text = " ".join(found[:k] + [strange] + found[behind:])
                    self.check_against(read_sheet, helper.SHEET, text)

    def test_a_text_without_one_lexeme(self):
        found = [lexeme for _, lexeme, _ in helper.plain_lexemes(TEXT)[0]]
        for k in range(len(found)):
            self.check_against(read_sheet, helper.SHEET, " ".join(found[:k] + found[k + 1:]))

    def test_too_great(self):
        self.assertEqual(len(read_sheet(with_part("row a 1 x 60000; needs b 2 x 40000;"))[2][0][2]), 60000)
        for line in ("row a 1 x 100001;", "row a 1 x 60000; needs b 2 x 40001;", "prices a 1 x 100000; row b 1;",
                     "needs a 1 x " + "9" * 40 + ";", "slots s; row a 1 x 50000; prices c 1; needs b 2 x 50000;"):
            self.assertRaises(TooGreat, read_sheet, with_part(line))

    def test_slopes_and_pairs_do_not_count(self):
        line = "row a 1 x 100000; slots s [0 1 0: 1]; rule r most 1 {0 -> 0, 1 -> 0};"
        self.assertEqual(len(read_sheet(with_part(line))[2]), 3)

    def test_texts_that_tell_no_sheet(self):
        for text, path in [
            ("sheet { start 0; sight 0; }", (0,)),
            (with_part("row a; needs a;"), (2, 1, 1)),
            (with_part("slots s [1 3 2: 1];"), (2, 0, 2, 0, 3)),
            (with_part("slots s [1 1 2: 1];"), (2, 0, 2, 0, 3)),
            (with_part("slots s [2 1 2:];"), (2, 0, 2, 0, 1)),
            (with_part("slots s [0 2 5: 1 -1];"), (2, 0, 2, 0, 3, 1)),
            (with_part("slots s [0 2 5: -3 -3];"), (2, 0, 2, 0, 3, 1)),
            (with_part("rule r most 0 {0 -> 0};"), (2, 0, 2, 0)),
            (with_part("rule r most 1 {0 -> 0};"), (2, 0, 2, 1, 0)),
            (with_part("rule r most 1 {0 -> 0, 2 -> 0};"), (2, 0, 2, 1, 0, 1, 0)),
            (with_part("rule r most 1 {0 -> 1, 1 -> 0};"), (2, 0, 2, 1, 0, 0, 1)),
        ]:
            with self.assertRaises(BadTree) as caught:
                read_sheet(text)
            self.assertEqual(caught.exception.path, path, text)

    def test_the_sequence_of_the_errors(self):
        self.check_bad(read_sheet, "sheet { start 0; sight 0; row a 1 x 100001; row a }", 50)
        self.assertRaises(TooGreat, read_sheet, "sheet { start 0; sight 0; row a 1 x 100001; row a; }")
        self.assertRaises(BadTree, read_sheet, "sheet { start 0; sight 0; row a 1 x 100000; row a; }")

    def test_numerals_of_any_length_behind_the_first_wrong_place(self):
        long = "9" * 5000
        for text, place in [("sheet { start 1 " + long, 16), (with_part("slots s [1 1 1; " + long + ":];"), 40),
                            (with_part("rule r most 1 {0 > " + long), 43), ("sheet " + long, 6)]:
            self.check_bad(read_sheet, text, place)

    def test_a_long_text(self):
        text = with_part("slots s " + "[0 3 9: -1 0 2]\n" * 3700 + ";")
        self.assertGreater(len(text), 59000)
        self.assertEqual(len(read_sheet(text)[2][0][2]), 3700)


if __name__ == "__main__":
    unittest.main()
