"""Desks: acts, taking back, marks, twins, and questions about what stands on the sheet."""

import fractions
import random
import time
import unittest

import helper
from helper import K, answers_of, plain_act_word, plain_sheet, random_act
from wakedenough.bestrules import least_factor
from wakedenough.desk import Desk
from wakedenough.errors import BadAct, BadAsk, BadTree, NothingDone, TooGreat, UnknownName
from wakedenough.factors import factor
from wakedenough.layers import least_by_layers
from wakedenough.menus import check_menu
from wakedenough.papers import judge_paper, paper_of
from wakedenough.rules import rule_cost, sight_rule, unmet
from wakedenough.runners import InnerRunner, SightRunner, run

Z = (2, 0, 0, 3, 1, 2)
V = ((1, 2, 1, (1,)), (0, 2, 0, (1, 1)), (0, 2, 0, (1, 1)), (1, 2, 1, (1,)))
UNFIT = (1, (((0, 0), (0, 0)),))
STAYS = (1, (((0, 0), (1, 1)), ((1, 1), (1, 1))))
GREAT = helper.fit_rule(random.Random(291), 6, 40)


def desk_with(*parts, b=1, w=0):
    desk = Desk()
    desk.do(("start", b))
    desk.do(("sight", w))
    for part in parts:
        desk.do(("put", part))
    return desk


def told(desk):
    """All that a desk tells, but for answers."""
    return (desk.sheet(), desk.acts(), desk.work(), desk.marks(), [desk.since(name) for name in desk.marks()])


class Acts(unittest.TestCase):
    def test_new(self):
        self.assertEqual(told(Desk()), ((1, 0, ()), [], 0, [], []))

    def check_word(self, desk, act, word):
        before = told(desk)
        self.assertEqual(desk.act_word(act), word, act)
        self.assertEqual(plain_act_word(desk.sheet(), act), word, act)
        if word is not None:
            with self.assertRaises(BadAct) as caught:
                desk.do(act)
            self.assertEqual(caught.exception.word, word)
        self.assertEqual(told(desk), before)

    def test_form(self):
        desk = desk_with(("needs", "a", Z))
        for value in helper.ANYTHING:
            self.check_word(desk, value, "form")
            self.check_word(desk, (value,), "form")
            self.check_word(desk, (value, 1), "form")
            self.check_word(desk, (value, "a", 1), "form")
        for act in [("start",), ("start", 1, 1), ("sight",), ("put",), ("put", ("needs", "b", ()), 1), ("drop",), ("drop", "a", 1), ("add", "a"), ("add", "a", 1, 1),
                    ["start", 2], ("undo",), ("Start", 2), ("start ", 2), (("start",), 2), ("mark", "a"), ()]:
            self.check_word(desk, act, "form")

    def test_words(self):
        desk = desk_with(("needs", "a", Z), ("row", "r", ()), ("slots", "v", V))
        for value in helper.ANYTHING:
            is_number = type(value) is int and value >= 0
            self.check_word(desk, ("start", value), None if is_number and value > 0 else "start")
            self.check_word(desk, ("sight", value), None if is_number else "sight")
            self.check_word(desk, ("put", value), "part")
            self.check_word(desk, ("put", ("needs", value, ())), None if value in ("a", "form") and type(value) is str else "part")
            self.check_word(desk, ("put", ("needs", "b", value)), None if type(value) is tuple and all(map(helper.is_number, value)) else "part")
            self.check_word(desk, ("drop", value), None if value == "a" else "name")
            self.check_word(desk, ("add", value, 1), None if value == "a" else "name")
            self.check_word(desk, ("add", value, -1), "need" if value == "a" else "name")
            self.check_word(desk, ("add", "a", value), None if is_number else "need")
            self.check_word(desk, ("add", "r", value), "sort")
            self.check_word(desk, ("add", "v", value), "sort")
        for part in [("need", "b", ()), ("needs", "B", ()), ["needs", "b", ()], ("needs", "b"), ("slots", "b", ((1, 0, 0, ()),)), ("rule", "b", (0, ())), ("rule", "b", ())]:
            self.check_word(desk, ("put", part), "part")

    def test_what_acts_do(self):
        desk = Desk()
        self.assertEqual([desk.do(("put", ("needs", "a", (1,)))), desk.do(("put", ("row", "b", ()))), desk.do(("start", 7)), desk.do(("sight", 9))], [1, 2, 3, 4])
        self.assertEqual(desk.sheet(), (7, 9, (("needs", "a", (1,)), ("row", "b", ()))))
        desk.do(("put", ("rule", "a", K)))
        self.assertEqual(desk.sheet()[2], (("rule", "a", K), ("row", "b", ())))
        desk.do(("put", ("needs", "c", ())))
        desk.do(("add", "c", 5))
        desk.do(("add", "c", 0))
        self.assertEqual(desk.sheet()[2][2], ("needs", "c", (5, 0)))
        desk.do(("drop", "b"))
        self.assertEqual([part[1] for part in desk.sheet()[2]], ["a", "c"])
        desk.do(("put", ("row", "b", (1,))))
        self.assertEqual([part[1] for part in desk.sheet()[2]], ["a", "c", "b"])
        self.assertEqual(len(desk.acts()), 10)
        self.assertEqual(desk.acts()[1], ("put", ("row", "b", ())))

    def test_thirty_parts(self):
        desk = Desk()
        for k in range(30):
            desk.do(("put", ("needs", f"n{k}", (k,))))
        self.check_word(desk, ("put", ("needs", "n30", ())), "many")
        self.check_word(desk, ("put", ("needs", "n30", [])), "part")
        self.check_word(desk, ("put", ("rule", "n29", K)), None)
        self.assertEqual(desk.do(("put", ("rule", "n7", K))), 31)
        self.assertEqual(desk.sheet()[2][7], ("rule", "n7", K))
        desk.do(("drop", "n3"))
        self.check_word(desk, ("put", ("needs", "n30", ())), None)
        desk.undo()
        self.check_word(desk, ("put", ("needs", "n30", ())), "many")

    def test_acts_are_kept_as_they_were_passed(self):
        desk = Desk()
        act = ("put", ("slots", "v", V))
        desk.do(act)
        acts = desk.acts()
        acts.append("more")
        acts[0] = None
        self.assertEqual(desk.acts(), [act])
        self.assertIsNot(desk.acts(), desk.acts())
        inner = [1, 2]
        for wrong in (("put", ("needs", "a", inner)), ["start", 3], ("put", ["needs", "a", (1,)])):
            self.assertRaises(BadAct, desk.do, wrong)
        self.assertEqual(told(desk), ((1, 0, (("slots", "v", V),)), [act], 0, [], []))


class TakingBack(unittest.TestCase):
    def test_undo_and_redo(self):
        desk = desk_with(("needs", "a", Z), b=2)
        self.assertEqual([desk.undo(), desk.undo(), desk.sheet()], [2, 1, (2, 0, ())])
        self.assertEqual([desk.redo(), desk.redo(), desk.sheet()], [2, 3, (2, 0, (("needs", "a", Z),))])
        self.assertRaises(NothingDone, desk.redo)
        self.assertEqual([desk.undo(), desk.undo(), desk.undo()], [2, 1, 0])
        self.assertRaises(NothingDone, desk.undo)
        self.assertEqual(desk.sheet(), (1, 0, ()))
        self.assertEqual([desk.redo(), desk.redo(), desk.redo()], [1, 2, 3])

    def test_what_takes_redo_away(self):
        def behind(change):
            desk = desk_with(("needs", "a", Z), ("rule", "k", K), b=2)
            desk.undo()
            change(desk)
            return desk
        for change in [lambda desk: desk.do(("start", 3)), lambda desk: desk.do(("put", ("rule", "k", K)))]:
            self.assertRaises(NothingDone, behind(change).redo)

        def refused(desk):
            self.assertRaises(BadAct, desk.do, ("start", 0))
            self.assertRaises(BadAsk, desk.factor, "k")
            self.assertRaises(UnknownName, desk.since, "k")
        keeps = [refused, lambda desk: desk.mark("m"), lambda desk: desk.least("a"), lambda desk: desk.act_word(("start", 5)), lambda desk: desk.acts(),
                 lambda desk: desk.twin().do(("start", 5)), lambda desk: [desk.undo(), desk.redo()]]
        for change in keeps:
            self.assertEqual(behind(change).redo(), 4)

    def test_marks(self):
        desk = Desk()
        desk.mark("x")
        desk.do(("start", 2))
        desk.do(("start", 3))
        desk.mark("a1")
        self.assertEqual([desk.marks(), desk.since("x"), desk.since("a1")], [["a1", "x"], 2, 0])
        desk.undo()
        desk.undo()
        self.assertEqual([desk.since("x"), desk.since("a1")], [0, -2])
        self.assertIsNone(desk.mark("a1"))
        self.assertEqual(desk.since("a1"), 0)
        desk.redo()
        self.assertEqual([desk.since("x"), desk.since("a1"), desk.marks()], [1, 1, ["a1", "x"]])
        desk.marks().append("y")
        self.assertEqual(desk.marks(), ["a1", "x"])

    def test_no_marks(self):
        desk = Desk()
        desk.mark("x")
        for name in helper.ANYTHING + [["x"], ("x",), desk]:
            with self.assertRaises(UnknownName) as caught:
                desk.since(name)
            self.assertIs(caught.exception.name, name)

    def test_twins(self):
        desk = desk_with(("rule", "k", K), ("needs", "a", Z), b=2)
        desk.factor("k")
        desk.mark("m")
        desk.undo()
        before = told(desk)
        twin = desk.twin()
        self.assertEqual(told(twin), before)
        self.assertEqual(twin.redo(), 4)
        twin.factor("k")
        self.assertEqual(twin.work(), 1)
        twin.do(("start", 3))
        twin.factor("k")
        twin.mark("other")
        self.assertEqual([twin.work(), twin.marks(), len(twin.acts())], [2, ["m", "other"], 5])
        self.assertEqual(told(desk), before)
        self.assertEqual(desk.redo(), 4)
        desk.do(("start", 3))
        desk.factor("k")
        self.assertEqual([desk.work(), desk.marks()], [2, ["m"]])
        desk.undo()
        desk.undo()
        self.assertEqual(twin.sheet()[2], (("rule", "k", K), ("needs", "a", Z)))
        self.assertEqual(desk.twin().redo(), 4)


class Work(unittest.TestCase):
    def test_what_is_known_is_kept(self):
        desk = desk_with(("rule", "k", K), ("needs", "a", Z), b=2)
        self.assertEqual([desk.work(), desk.factor("k"), desk.work(), desk.factor("k"), desk.work()], [0, (4, 3), 1, (4, 3), 1])
        desk.do(("put", ("rule", "other", (1, tuple(tuple(state) for state in K[1])))))
        self.assertEqual([desk.factor("other"), desk.work()], [(4, 3), 1])
        desk.do(("start", 3))
        self.assertEqual([desk.factor("k"), desk.work()], [(5, 3), 2])
        desk.undo()
        self.assertEqual([desk.factor("k"), desk.work()], [(4, 3), 2])
        desk.do(("drop", "k"))
        desk.do(("start", 3))
        self.assertEqual([desk.factor("other"), desk.work()], [(5, 3), 2])

    def test_that_there_is_none_is_known_too(self):
        desk = desk_with(("rule", "s", STAYS), b=2)
        self.assertEqual([desk.factor("s"), desk.factor("s"), desk.work()], [None, None, 1])

    def test_words_and_too_great_rules_do_not_count(self):
        desk = desk_with(("rule", "u", UNFIT), ("rule", "g", GREAT), ("needs", "a", Z), b=20)
        for name in ("u", "a", "none", None, ["u"]):
            self.assertRaises(BadAsk, desk.factor, name)
        for _ in range(3):
            self.assertRaises(TooGreat, desk.factor, "g")
        desk.unmet("g")
        self.assertEqual(desk.work(), 0)
        desk.do(("start", 1))
        desk.factor("g")
        self.assertEqual(desk.work(), 1)


class Questions(unittest.TestCase):
    def word(self, desk, question, *names):
        try:
            getattr(desk, question)(*names)
        except BadAsk as error:
            return error.word
        return None

    def test_needs(self):
        desk = desk_with(("needs", "z", Z), ("needs", "none", ()), ("needs", "zeros", (0, 0)), b=2)
        self.assertEqual([desk.least("z"), desk.paid("z"), desk.quotient("z"), desk.runs("z")], [19, 22, (22, 19), run(SightRunner(2, 0), Z, 0)])
        self.assertEqual([desk.least("none"), desk.paid("none"), desk.quotient("none"), desk.runs("none")], [0, 0, None, ()])
        self.assertEqual([desk.least("zeros"), desk.paid("zeros"), desk.quotient("zeros"), desk.runs("zeros")], [0, 0, None, (0, 0)])
        desk.do(("sight", 1))
        self.assertEqual([desk.paid("z"), desk.quotient("z")], [19, (1, 1)])

    def test_words_for_needs(self):
        desk = desk_with(("needs", "z", Z), ("row", "r", Z), b=2, w=2)
        for question in ("least", "paid", "quotient", "runs"):
            for name in helper.ANYTHING + ["x", ["z"]]:
                self.assertEqual(self.word(desk, question, name), "name")
            self.assertEqual(self.word(desk, question, "r"), "sort")
            self.assertEqual(self.word(desk, question, "z"), None if question == "least" else "far")
        desk.do(("sight", 1))
        self.assertEqual([self.word(desk, question, "z") for question in ("paid", "quotient", "runs")], [None] * 3)
        desk.do(("start", 1))
        self.assertEqual([self.word(desk, question, "z") for question in ("least", "paid", "quotient", "runs")], [None, "far", "far", "far"])

    def test_rules(self):
        desk = desk_with(("rule", "k", K), ("rule", "u", UNFIT), ("rule", "s", STAYS), ("rule", "g", GREAT), ("needs", "a", (1, 0, 0, 1)), ("needs", "e", ()), b=2)
        self.assertEqual([desk.factor("k"), desk.factor("s"), desk.unmet("k"), desk.unmet("u"), desk.unmet("g")], [(4, 3), None, None, (1,), None])
        self.assertEqual([desk.price("k", "a"), desk.price("u", "a"), desk.price("k", "e"), desk.price("g", "a")], [7, 0, 0, rule_cost(GREAT, 2, (1, 0, 0, 1))])

    def test_words_for_rules(self):
        desk = desk_with(("rule", "k", K), ("rule", "u", UNFIT), ("rule", "g", GREAT), ("rule", "gu", (6, helper.changed_at(GREAT[1], 0, ((0, 0),) * 7))),
                         ("needs", "n1", (1, 0)), ("needs", "two", (0, 2)), ("slots", "v", V), b=10 ** 6)
        for question in ("factor", "unmet"):
            for name in helper.ANYTHING:
                self.assertEqual(self.word(desk, question, name), "name")
            self.assertEqual([self.word(desk, question, name) for name in ("n1", "v")], ["sort", "sort"])
        self.assertEqual([self.word(desk, "factor", "u"), self.word(desk, "factor", "gu")], ["unmet", "unmet"])
        self.assertRaises(TooGreat, desk.factor, "g")
        self.assertRaises(TooGreat, desk.factor, "k")
        asked = [("x", "x"), ("n1", "x"), ("v", "n1"), ("k", "x"), ("k", "k"), ("k", "two"), ("k", "n1"), ("u", "two"), (None, "two"), ("k", ["n1"]), ("n1", "n1")]
        words = ["name", "sort", "sort", "name", "sort", "need", None, "need", "name", "name", "sort"]
        self.assertEqual([self.word(desk, "price", *names) for names in asked], words)

    def test_slots(self):
        desk = desk_with(("slots", "v", V), ("slots", "none", ()), ("slots", "w", helper.W), ("slots", "twice", helper.W * 2), b=3)
        self.assertEqual([desk.best("v"), desk.inside("v"), desk.best("none"), desk.inside("none")], [7, 7, 0, 0])
        self.assertEqual([desk.menu("w"), desk.best("twice"), desk.inside("twice")], [(7, 3), desk.best("twice"), helper.plain_cost(helper.W * 2, 3, run(InnerRunner(3), helper.W * 2, 0))])
        row, prices = paper_of(V, 3)
        for part in [("row", "r", row), ("prices", "p", prices), ("prices", "q", (2, 1, 2, 3)), ("row", "s", (1, 1)), ("row", "t", (0, 1, 1, 1))]:
            desk.do(("put", part))
        papers = [desk.paper("r", "p", "v"), desk.paper("r", "q", "v"), desk.paper("s", "p", "v"), desk.paper("t", "p", "v"), desk.paper("s", "p", "w")]
        self.assertEqual(papers, [None, ("start", 0), ("form",), ("serves", 0), ("form",)])

    def test_words_for_slots(self):
        desk = desk_with(("slots", "v", V), ("slots", "none", ()), ("slots", "mixed", V[:1] + ((0, 1, 0, (0,)),)), ("slots", "wide", ((0, 200, 0, (0,) * 200),)),
                         ("row", "r", (1,)), ("prices", "p", (1,)), ("slots", "far", ((10 ** 6, 10 ** 6, 0, ()),)), b=10 ** 6)
        for question in ("best", "inside", "menu"):
            for name in helper.ANYTHING:
                self.assertEqual(self.word(desk, question, name), "name")
            self.assertEqual([self.word(desk, question, name) for name in ("r", "p")], ["sort", "sort"])
        self.assertEqual([self.word(desk, "menu", name) for name in ("v", "none", "mixed")], ["menu"] * 3)
        for name in ("wide", "far"):
            self.assertRaises(TooGreat, desk.menu, name)
        asked = [("x", "x", "x"), ("p", "x", "x"), ("r", "x", "x"), ("r", "r", "x"), ("r", "p", "x"), ("r", "p", "r"), ("r", "p", "v"), (None, "p", "v"), ("r", [], "v"), ("r", "p", {})]
        words = ["name", "sort", "name", "sort", "name", "sort", None, "name", "name", "name"]
        self.assertEqual([self.word(desk, "paper", *names) for names in asked], words)

    def test_against_the_words(self):
        source = random.Random(292)
        for _ in range(60):
            b, w = source.randrange(1, 4), source.randrange(3)
            parts = [helper.random_part(source, f"n{k}") for k in range(6)]
            desk = desk_with(*parts, b=b, w=w)
            for word, name, value in parts:
                if word == "needs":
                    self.check_needs(desk, name, value, b, w)
                elif word == "rule":
                    self.assertEqual(desk.unmet(name) is None, unmet(value) is None)
                    self.assertEqual(self.word(desk, "factor", name), None if unmet(value) is None else "unmet")
                    self.assertTrue(unmet(value) is not None or desk.factor(name) == factor(value, b))
                elif word == "slots":
                    self.check_slots(desk, name, value, b)

    def check_needs(self, desk, name, needs, b, w):
        self.assertEqual(desk.least(name), least_by_layers(needs, b))
        if w < b:
            row = run(SightRunner(b, w), needs, w)
            paid, least = helper.need_row_cost(row, b), desk.least(name)
            self.assertEqual([desk.runs(name), desk.paid(name)], [row, paid])
            value = fractions.Fraction(paid, least) if least else None
            self.assertEqual(desk.quotient(name), value and (value.numerator, value.denominator))
            self.assertLessEqual(paid * (b + 1), (2 * b - w) * least)

    def check_slots(self, desk, name, slots, b):
        best = min([helper.plain_cost(slots, b, row) for row in helper.rows_of(slots)])
        paid = helper.plain_cost(slots, b, run(InnerRunner(b), slots, 0))
        self.assertEqual([desk.best(name), desk.inside(name)], [best, paid])
        self.assertLessEqual(b * paid, (3 * b - 2) * best)
        try:
            check_menu(slots)
        except BadTree:
            self.assertEqual(self.word(desk, "menu", name), "menu")
        else:
            self.assertEqual(desk.menu(name), least_factor(slots, b))
        row, prices = paper_of(slots, b)
        desk.do(("put", ("row", "ro", row)))
        desk.do(("put", ("prices", "pr", prices[::-1])))
        self.assertEqual(desk.paper("ro", "pr", name), judge_paper(slots, b, (row, prices[::-1])))

    def test_the_sight_rule(self):
        desk = desk_with(("rule", "s", sight_rule(3, 2)), b=3)
        self.assertEqual(desk.factor("s"), (3, 2))

    def test_great_ones_in_good_time(self):
        begun = time.perf_counter()
        source = random.Random(293)
        needs = tuple(source.randrange(10 ** 6) for _ in range(5000))
        desk = desk_with(("needs", "n", needs), ("slots", "s", helper.great_slots()), ("rule", "r", helper.fit_rule(source, 6, 6)), b=5, w=2)
        self.assertLessEqual(desk.least("n"), desk.paid("n"))
        self.assertEqual(len(desk.runs("n")), 5000)
        self.assertLessEqual(desk.best("s"), desk.inside("s"))
        desk.factor("r")
        self.assertEqual(self.word(desk, "menu", "s"), "menu")
        for k in range(2000):
            desk.do(("add", "n", k))
        for k in range(2000):
            desk.undo()
        self.assertEqual(desk.sheet()[2][0][2], needs)
        self.assertLess(time.perf_counter() - begun, 20)


class AsANewDesk(unittest.TestCase):
    def test_behind_any_acts(self):
        source = random.Random(294)
        for k in range(40):
            desk, done, undone, marked = Desk(), [], [], {}
            for _ in range(60):
                change = source.choice(("act", "act", "act", "act", "undo", "undo", "redo", "mark", "ask", "twin"))
                if change == "act":
                    act = random_act(source)
                    word = plain_act_word(plain_sheet(done), act)
                    self.assertEqual(desk.act_word(act), word, act)
                    if word is None:
                        done, undone = done + [act], []
                        self.assertEqual(desk.do(act), len(done))
                    else:
                        self.assertRaises(BadAct, desk.do, act)
                elif change in ("undo", "redo"):
                    one, other = (done, undone) if change == "undo" else (undone, done)
                    if one:
                        other.append(one.pop())
                        self.assertEqual(getattr(desk, change)(), len(done))
                    else:
                        self.assertRaises(NothingDone, getattr(desk, change))
                elif change == "mark":
                    name = source.choice(("x", "y"))
                    desk.mark(name)
                    marked[name] = len(done)
                elif change == "ask":
                    answers_of(desk, source.sample(helper.NAMED, 4))
                else:
                    desk = desk.twin()
                self.assertEqual([desk.sheet(), desk.acts()], [plain_sheet(done), done])
                self.assertEqual({name: desk.since(name) for name in desk.marks()}, {name: len(done) - many for name, many in marked.items()})
            new = Desk()
            for act in done:
                new.do(act)
            self.assertEqual(answers_of(desk), answers_of(new))


if __name__ == "__main__":
    unittest.main()
