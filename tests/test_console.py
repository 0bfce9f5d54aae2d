"""Consoles: lines of all forms, and of none, and what is answered."""

import random
import time
import unittest

import helper
from helper import K, NAME, NUMERAL, PART, either, first_wrong_place, plain_act_word, seq
from wakedenough.console import Console
from wakedenough.desk import Desk
from wakedenough.errors import BadAct, BadAsk, NothingDone, TooGreat
from wakedenough.sheets import names_of
from wakedenough.sheettexts import read_runs, runs_text, sheet_text

ASKS = {"mark": 1, "since": 1, "least": 1, "paid": 1, "quotient": 1, "factor": 1, "runs": 1, "unmet": 1, "price": 2, "best": 1, "inside": 1,
        "menu": 1, "paper": 3, "parts": 0, "undo": 0, "redo": 0}
LINE = either(PART, seq("start", NUMERAL, ";"), seq("sight", NUMERAL, ";"), seq("drop", NAME, ";"), seq("add", NAME, NUMERAL, ";"),
              *[seq(word, *[NAME] * many, ";") for word, many in ASKS.items()])
V_LINE = "slots v [1 2 1: 1] [0 2 0: 1 1] [0 2 0: 1 1] [1 2 1: 1];"


def told(desk):
    return (desk.sheet(), desk.acts(), desk.work(), desk.marks(), [desk.since(name) for name in desk.marks()])


def fraction_text(value):
    return "none" if value is None else str(value[0]) if value[1] == 1 else f"{value[0]}/{value[1]}"


class Lines(unittest.TestCase):
    def ask(self, console, *pairs):
        for line, answer in pairs:
            self.assertEqual(console.answer(line), answer, line)

    def test_acts(self):
        desk = Desk()
        console = Console(desk)
        self.ask(console, ("start 3;", "done"), ("sight 1 ;", "done"), ("needs a 2, 0 x 2, 3, 1, 2;", "done"), ("row b ;", "done"), ("prices p 3, 1, 2, 3;", "done"),
                 (V_LINE, "done"), ("rule k most 1 {0 -> 0, 1 -> 1} {1 -> 0, 1 -> 1};", "done"), ("add a 7;", "done"), ("drop b;", "done"))
        self.assertEqual(desk.sheet(), (3, 1, (("needs", "a", (2, 0, 0, 3, 1, 2, 7)), ("prices", "p", (3, 1, 2, 3)), ("slots", "v", (
            (1, 2, 1, (1,)), (0, 2, 0, (1, 1)), (0, 2, 0, (1, 1)), (1, 2, 1, (1,)))), ("rule", "k", K))))
        self.assertEqual(desk.acts()[0], ("start", 3))
        self.assertEqual(desk.acts()[-2:], [("add", "a", 7), ("drop", "b")])
        self.assertEqual(desk.acts()[2], ("put", ("needs", "a", (2, 0, 0, 3, 1, 2))))
        self.ask(console, ("parts;", "a p v k"))

    def test_words_of_acts(self):
        desk = Desk()
        console = Console(desk)
        console.answer("row r;")
        before = told(desk)
        self.ask(console, ("start 0;", "no start"), ("slots s [2 1 0:];", "no part"), ("slots s [0 1 0: -1];", "no part"), ("rule r most 1 {0 -> 0};", "no part"),
                 ("rule r most 1 {0 -> 0, 1 -> 1};", "no part"), ("drop x;", "no name"), ("add x 1;", "no name"), ("add r 1;", "no sort"))
        self.assertEqual(told(desk), before)
        for k in range(29):
            self.assertEqual(console.answer(f"needs n{k};"), "done")
        self.ask(console, ("needs n30;", "no many"), ("needs r 1;", "done"), ("rule n31 most 0 {0 -> 0};", "no part"))

    def test_taking_back(self):
        desk = Desk()
        console = Console(desk)
        self.ask(console, ("undo;", "no nothing"), ("redo ;", "no nothing"), ("start 2;", "done"), ("mark m;", "done"), ("start 3;", "done"), ("since m;", "1"),
                 ("undo;", "done"), ("since m;", "0"), ("undo;", "done"), ("since m;", "-1"), ("redo;", "done"), ("start 0;", "no start"), ("redo;", "done"),
                 ("redo;", "no nothing"), ("since x;", "no mark"), ("undo;", "done"), ("mark undo;", "done"), ("since undo;", "0"), ("start 3;", "done"), ("redo;", "no nothing"))
        self.assertEqual(desk.sheet(), (3, 0, ()))

    def test_the_very_desk(self):
        desk = Desk()
        one, other = Console(desk), Console(desk)
        one.answer("start 5;")
        self.assertEqual(other.answer("undo;"), "done")
        desk.do(("put", ("needs", "a", (1,))))
        self.assertEqual(one.answer("least a;"), "2")

    def test_questions_about_needs(self):
        console = Console(Desk())
        console.answer("start 3;")
        self.ask(console, ("needs n 2, 0, 1, 0 x 3, 1;", "done"), ("needs zero 0 x 3;", "done"), ("needs none;", "done"), ("row r;", "done"),
                 ("least n;", "14"), ("paid n;", "18"), ("quotient n;", "9/7"), ("runs n;", "2 x 3, 1 x 2, 0, 1"),
                 ("least zero;", "0"), ("paid zero;", "0"), ("quotient zero;", "none"), ("runs zero;", "0 x 3"),
                 ("least none;", "0"), ("paid none;", "0"), ("quotient none;", "none"), ("runs none;", ""),
                 ("least x;", "no name"), ("paid r;", "no sort"), ("runs x;", "no name"), ("sight 2;", "done"), ("quotient n;", "1"), ("paid n;", "14"),
                 ("sight 3;", "done"), ("paid n;", "no far"), ("quotient n;", "no far"), ("runs n;", "no far"), ("least n;", "14"), ("runs r;", "no sort"))

    def test_questions_about_rules(self):
        console = Console(Desk())
        self.ask(console, ("start 2;", "done"), ("rule k most 1 {0 -> 0, 1 -> 1} {1 -> 0, 1 -> 1};", "done"), ("rule u most 1 {0 -> 0, 1 -> 1} {0 -> 0, 0 -> 0};", "done"),
                 ("rule s most 1 {0 -> 0, 1 -> 1} {1 -> 1, 1 -> 1};", "done"), ("needs a 1, 0, 0, 1;", "done"), ("needs two 2;", "done"),
                 ("factor k;", "4/3"), ("factor u;", "no unmet"), ("factor s;", "none"), ("factor a;", "no sort"), ("factor x;", "no name"),
                 ("unmet k;", "none"), ("unmet u;", "2"), ("unmet a;", "no sort"), ("unmet x;", "no name"),
                 ("price k a;", "7"), ("price u a;", "6"), ("price a k;", "no sort"), ("price k k;", "no sort"), ("price x a;", "no name"), ("price k x;", "no name"),
                 ("price k two;", "no need"), ("start 1000000;", "done"), ("factor k;", "no great"), ("factor u;", "no unmet"), ("price k a;", "2000003"),
                 ("rule one most 1 {1 -> 0, 1 -> 0};", "done"), ("start 1;", "done"), ("factor one;", "none"), ("factor k;", "3/2"), ("unmet one;", "none"))

    def test_a_factor_of_1(self):
        console = Console(Desk())
        self.ask(console, ("rule r most 1 {0 -> 0, 1 -> 0};", "done"), ("factor r;", "1"))

    def test_questions_about_slots(self):
        console = Console(Desk())
        self.ask(console, ("start 3;", "done"), (V_LINE, "done"), ("best v;", "7"), ("inside v;", "7"), ("menu v;", "no menu"), ("slots none;", "done"), ("best none;", "0"),
                 ("inside none;", "0"), ("menu none;", "no menu"), ("slots w [0 1 1: -1] [0 1 0: 1];", "done"), ("menu w;", "7/3"), ("slots one [0 1 5: 0];", "done"), ("menu one;", "1"),
                 ("row r 1 x 4;", "done"), ("prices p 3, 1, 2, 3;", "done"), ("prices q 2, 1, 2, 3;", "done"), ("row s 1;", "done"), ("row t 0, 1 x 3;", "done"),
                 ("paper r p v;", "yes"), ("paper r q v;", "start 0"), ("paper s p v;", "form"), ("paper t p v;", "serves 0"), ("paper p r v;", "no sort"), ("paper r p x;", "no name"),
                 ("best r;", "no sort"), ("inside x;", "no name"), ("menu r;", "no sort"), ("start 150;", "done"), ("menu w;", "no great"), ("menu v;", "no menu"))

    def test_parts(self):
        self.ask(Console(Desk()), ("parts;", ""), ("needs b;", "done"), ("parts ;", "b"), ("row a;", "done"), ("parts;", "b a"), ("rule b most 1 {0 -> 0, 1 -> 0};", "done"), ("parts;", "b a"))

    def test_great_parts(self):
        desk = Desk()
        console = Console(desk)
        self.ask(console, ("needs a 1 x 100000;", "done"), ("needs b 1 x 100001;", "no great"), ("row b 1 x 99999, 2 x 2;", "no great"), ("prices b 0 x 0, 1 x 1000000000000;", "no great"),
                 ("needs b 1 x 100001", "no 18"), ("needs b 1 x 100001; undo;", "no 20"))
        for k in range(29):
            console.answer(f"needs n{k};")
        # Too great ahead of the words: the desk has thirty parts.
        self.ask(console, ("needs more;", "no many"), ("needs more 7 x 100001;", "no great"))
        self.assertEqual(len(desk.acts()), 30)

    def test_fractions(self):
        desk = Desk()
        console = Console(desk)
        source = random.Random(301)
        for k in range(40):
            desk.do(("start", source.randrange(1, 5)))
            desk.do(("put", ("needs", "a", tuple(source.randrange(3) for _ in range(6)))))
            desk.do(("put", ("rule", "r", helper.fit_rule(source, 1, 2))))
            desk.do(("put", ("slots", "m", helper.random_menu(source, 1, 2, 2))))
            self.ask(console, ("quotient a;", fraction_text(desk.quotient("a"))), ("factor r;", fraction_text(desk.factor("r"))), ("menu m;", fraction_text(desk.menu("m"))))


class WrongLines(unittest.TestCase):
    def test_examples(self):
        console = Console(Desk())
        for line, place in [("undo ; redo ;", 7), ("start x ;", 6), ("undo", 4), ("needs a 3 x ;", 12), ("", 0), ("  ", 2), ("\n", 1), (" #", 1), ("undo; #", 6), ("undo #", 5),
                            ("#undo;", 0), ("x;", 0), ("sheet { }", 0), (";", 0), ("7;", 0), ("start -1;", 6), ("start 3 3;", 8), ("add a;", 5), ("add 3 a;", 4), ("drop;", 4),
                            ("price a;", 7), ("price a b c;", 10), ("paper a b;", 9), ("parts a;", 6), ("needs;", 5), ("needs a 1, ;", 11), ("rule r;", 6), ("rule r most 1;", 13),
                            ("slots s [1 2];", 12), ("slots s [1 1 1: -0];", 17), ("start 007;", 7), ("undo\t;", 4), ("un do;", 0), ("undo; undo", 6), ("abcdefghijklm;", 0),
                            ("mark abcdefghijklm;", 5), ("row a 1 x 2 x 3;", 12), ("start > 3;", 6), ("needs a 1 -> 2;", 10), ("Undo;", 0), ("undo;\n;", 6)]:
            self.assertEqual(console.answer(line), f"no {place}", line)
            self.assertEqual(first_wrong_place(line, LINE), place, line)

    def test_blanks_and_line_feeds_anywhere(self):
        desk = Desk()
        console = Console(desk)
        for line in ["\n start\n3 \n;\n\n", "  needs   a\n\n2x\n3 ,0x 2,1 ;  ", "rule k\nmost 1{0->0,1  ->\n1}{1->0,1->1};", "slots v[1 2 1:- 1][0 1 0:1];", "\nadd a 4;"]:
            self.assertEqual(console.answer(line), "done", line)
        self.assertEqual(desk.sheet(), (3, 0, (("needs", "a", (2, 2, 2, 0, 0, 1, 4)), ("rule", "k", K), ("slots", "v", ((1, 2, 1, (-1,)), (0, 1, 0, (1,)))))))
        self.assertEqual([console.answer(" least\n a\n;\n"), console.answer("\nprice k  a ;")], [str(desk.least("a")), "no need"])

    def test_by_all_forms_together(self):
        source = random.Random(302)
        pieces = ["start", "sight", "needs", "row", "prices", "slots", "rule", "drop", "add", "undo", "redo", "parts", "paper", "price", "least", "most", "x", "a", "b1", "0", "1", "23",
                  ";", ",", "x", "[", "]", ":", "-", "->", "{", "}", "#", "\t", ">", "abcdefghijklm", "A"]
        lines = ["start 3;", "add a 4;", "needs a 1, 2 x 3;", "row r;", V_LINE, "rule k most 1 {0 -> 0, 1 -> 1} {1 -> 0, 1 -> 1};", "paper a b c;", "parts;", "price a b;", "drop a;", "since m;"]
        wrong = 0
        for k in range(6000):
            lexemes = source.choice(lines).replace(";", " ;").replace(",", " ,").replace("[", "[ ").replace("]", " ]").split()
            for _ in range(source.randrange(3)):
                at = source.randrange(len(lexemes) + 1)
                change = source.randrange(3)
                if change == 0:
                    lexemes.insert(at, source.choice(pieces))
                elif change == 1 and at < len(lexemes):
                    del lexemes[at]
                elif at < len(lexemes):
                    lexemes[at] = source.choice(pieces)
            if k % 7 == 0:
                lexemes = [source.choice(pieces) for _ in range(source.randrange(5))]
            line = "".join(lexeme + source.choice((" ", " ", "\n", "  ")) for lexeme in lexemes)
            desk = Desk()
            desk.mark("m")
            place = first_wrong_place(line, LINE)
            answer = Console(desk).answer(line)
            if place is None:
                self.assertFalse(answer[:3] == "no " and answer[3:].isdigit(), line)
            else:
                wrong += 1
                self.assertEqual(answer, f"no {place}", line)
                self.assertEqual(told(desk), ((1, 0, ()), [], 0, ["m"], [0]))
        self.assertGreater(wrong, 2000)

    def test_numerals(self):
        desk = Desk()
        console = Console(desk)
        long = "1" + "0" * 39
        self.assertEqual([console.answer(f"start {long};"), console.answer(f"needs a {long}, 1;"), console.answer(f"add a {long};")], ["done"] * 3)
        self.assertEqual(desk.sheet(), (10 ** 39, 0, (("needs", "a", (10 ** 39, 1, 10 ** 39)),)))
        self.assertEqual(console.answer(f"needs b 1 x {long};"), "no great")
        endless = "9" * 50000
        self.assertEqual([console.answer(f"undo {endless};"), console.answer(endless), console.answer(f"drop {endless}"), console.answer(f"add a > {endless}")], ["no 5", "no 0", "no 5", "no 6"])

    def test_long_lines_in_good_time(self):
        begun = time.perf_counter()
        console = Console(Desk())
        numbers = tuple(k % 1000 for k in range(10000))
        line = f"needs a {runs_text(numbers)};"
        self.assertLess(len(line), 60000)
        self.assertEqual(console.answer(line), "done")
        self.assertEqual(console.answer(line[:-1]), f"no {len(line) - 1}")
        self.assertEqual(read_runs(console.answer("runs a;"))[:3], (0, 1, 2))
        self.assertEqual(console.answer(" " * 59999), "no 59999")
        self.assertEqual(console.answer("a " * 30000), "no 0")
        self.assertLess(time.perf_counter() - begun, 10)


def line_of(act):
    """The line of an act that lines can tell."""
    if act[0] == "put":
        return sheet_text((1, 0, (act[1],))).split("\n")[3]
    return " ".join(str(part) for part in act) + ";"


class Drawn(unittest.TestCase):
    def test_lines_do_as_the_desk_does(self):
        source = random.Random(303)
        for _ in range(60):
            desk, other = Desk(), Desk()
            console = Console(desk)
            for _ in range(40):
                change = source.choice(("act", "act", "act", "undo", "redo", "ask"))
                if change == "act":
                    act = helper.random_act(source)
                    if plain_act_word(other.sheet(), act) in ("form", "part", "need", "sight") or not all(type(part) in (int, str, tuple) and part != -1 for part in act):
                        continue
                    word = other.act_word(act)
                    self.assertEqual(console.answer(line_of(act)), "done" if word is None else f"no {word}", act)
                    if word is None:
                        other.do(act)
                    else:
                        self.assertRaises(BadAct, other.do, act)
                elif change == "ask":
                    self.check_question(console, other, source)
                else:
                    try:
                        getattr(other, change)()
                        expected = "done"
                    except NothingDone:
                        expected = "no nothing"
                    self.assertEqual(console.answer(change + ";"), expected)
                self.assertEqual(told(desk), told(other))

    def check_question(self, console, desk, source):
        word = source.choice(helper.ONE_NAME + ("price", "paper"))
        names = [source.choice(("a", "b", "c", "d1", "e")) for _ in range({"price": 2, "paper": 3}.get(word, 1))]
        try:
            answer = getattr(desk, word)(*names)
        except BadAsk as error:
            expected = f"no {error.word}"
        except TooGreat:
            expected = "no great"
        else:
            if word in ("quotient", "factor", "menu"):
                expected = fraction_text(answer)
            elif word == "runs":
                expected = runs_text(answer)
            elif word == "unmet":
                expected = "none" if answer is None else str(len(answer))
            elif word == "paper":
                expected = "yes" if answer is None else " ".join(map(str, answer))
            else:
                expected = str(answer)
        self.assertEqual(console.answer(f"{word} {' '.join(names)};"), expected)
        self.assertEqual(console.answer("parts;"), " ".join(part[1] for part in desk.sheet()[2]))
        self.assertEqual(names_of(desk.sheet(), "needs"), [part[1] for part in desk.sheet()[2] if part[0] == "needs"])


if __name__ == "__main__":
    unittest.main()
