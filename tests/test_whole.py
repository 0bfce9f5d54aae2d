"""What the document promises over the whole program."""

import copy
import fractions
import random
import unittest

import helper
from helper import K, W, answers_of, random_part
from wakedenough.bestrules import inner_paper, least_factor, player_paper, rule_paper
from wakedenough.books import bills, machine_costs, total
from wakedenough.console import Console
from wakedenough.desk import Desk
from wakedenough.errors import BadAct, BadAsk, NothingDone, UnknownName
from wakedenough.hall import Hall
from wakedenough.machines import Fleet
from wakedenough.playing import PaperPlayer, PaperRunner
from wakedenough.requests import day_needs
from wakedenough.runners import SightRunner
from wakedenough.sheettexts import read_sheet, sheet_text
from wakedenough.sheets import check_sheet


def random_sheet(source):
    parts = tuple(random_part(source, f"n{k}") for k in range(source.randrange(8)))
    return (source.randrange(1, 5), source.randrange(3), parts)


class Texts(unittest.TestCase):
    def test_sheets_come_back_and_are_put_on_a_desk_by_lines(self):
        source = random.Random(311)
        for _ in range(150):
            sheet = random_sheet(source)
            self.assertIsNone(check_sheet(sheet))
            text = sheet_text(sheet)
            self.assertEqual(read_sheet(text), sheet)
            desk = Desk()
            console = Console(desk)
            for line in text.split("\n")[1:-2]:
                self.assertEqual(console.answer(line), "done", line)
            self.assertEqual(desk.sheet(), sheet)
            self.assertEqual(sheet_text(desk.sheet()), text)
            by_acts = Desk()
            for act in [("start", sheet[0]), ("sight", sheet[1])] + [("put", part) for part in sheet[2]]:
                by_acts.do(act)
            names = [part[1] for part in sheet[2]] + ["none"]
            self.assertEqual(answers_of(desk, names), answers_of(by_acts, names))
            self.assertEqual(desk.acts(), by_acts.acts())


class Bounds(unittest.TestCase):
    def test_a_fleet_pays_what_the_desk_tells(self):
        source = random.Random(312)
        names = [f"m{k}" for k in range(30)]
        for k in range(40):
            b = source.randrange(1, 6)
            w = source.randrange(b)
            day = helper.random_day(source, names, 30, 5, 0, 1)
            hall = Hall(names, b, w, day, SightRunner(b, w))
            while not hall.is_over():
                hall.step()
            desk = Desk()
            for act in [("start", b), ("sight", w), ("put", ("needs", "day", day_needs(day)))]:
                desk.do(act)
            self.assertEqual([hall.needs(), hall.row()], [day_needs(day), desk.runs("day")])
            self.assertEqual(total(hall.books()), desk.paid("day"))
            self.assertEqual([sum(bills(hall.books()).values()), sum(machine_costs(hall.books()).values())], [desk.paid("day")] * 2)
            self.assertLessEqual((b + 1) * desk.paid("day"), (2 * b - w) * desk.least("day"))

    def test_menus_on_a_desk(self):
        source = random.Random(313)
        for _ in range(30):
            b, menu = source.randrange(1, 5), helper.random_menu(source, 1, 2, 3)
            desk = Desk()
            desk.do(("start", b))
            desk.do(("put", ("slots", "m", menu)))
            told = fractions.Fraction(*desk.menu("m"))
            self.assertLessEqual(told, fractions.Fraction(3 * b - 2, b))
            for _ in range(10):
                desk.do(("put", ("slots", "row", tuple(source.choice(menu) for _ in range(8)))))
                self.assertLessEqual(b * desk.inside("row"), (3 * b - 2) * desk.best("row"))
                desk.undo()


class Objects(unittest.TestCase):
    """Objects that are made anew by the same calls answer the same, and what they return is the caller's own."""

    def told(self, call):
        try:
            return call()
        except (BadAct, BadAsk, NothingDone, UnknownName) as error:
            return (type(error), vars(error))

    def scripts(self):
        day = helper.random_day(random.Random(314), ["m", "n", "o"], 12, 4, 0.4)
        paper, player = rule_paper(W, 3, 7, 3), player_paper(W, 3, 2, 1)
        fleet = [("set_to", 2), ("take", "r"), ("names",), ("go_on",), ("fall", "m"), ("fall", "m"), ("mend", "x"), ("those", "idle"), ("set_to", 0), ("state", "n"), ("tick",), ("many_on",)]
        hall = [("step",)] * 13 + [("states",), ("waiting",), ("served",), ("unmet",), ("books",), ("needs",), ("row",), ("tick",), ("is_over",)]
        desk = [("do", ("start", 2)), ("do", ("put", ("rule", "k", K))), ("do", ("put", ("needs", "a", (1, 0, 1)))), ("factor", "k"), ("least", "a"), ("runs", "a"), ("undo",), ("undo",),
                ("redo",), ("do", 5), ("factor", "a"), ("acts",), ("mark", "x"), ("marks",), ("since", "x"), ("since", [1]), ("sheet",), ("work",), ("unmet", "k"), ("redo",), ("redo",)]
        lines = [("answer", line) for line in ("start 2;", "needs a 1, 0, 1;", "quotient a;", "undo;", "redo;", "redo;", "x", "parts;", "runs a;")]
        slots = [("look", (slot,)) for slot in W * 3]
        yield lambda: Fleet(["n", "m", "o"]), fleet
        yield lambda: Hall(["n", "m", "o"], 3, 1, day, SightRunner(3, 1)), hall
        yield Desk, desk
        yield lambda: Console(Desk()), lines
        yield lambda: PaperRunner(W, 3, paper), slots + [("here",)]
        yield lambda: PaperPlayer(W, 3, player), [("next_call",), ("answer", 1), ("here",), ("answer", 0), ("next_call",), ("here",)]

    def test_the_same_again(self):
        for make, script in self.scripts():
            one, other = make(), make()
            for name, *arguments in script:
                kept = copy.deepcopy(arguments)
                first = self.told(lambda: getattr(one, name)(*arguments))
                second = self.told(lambda: getattr(other, name)(*copy.deepcopy(arguments)))
                self.assertEqual(first, second, name)
                self.assertEqual(arguments, kept)
                if isinstance(first, (list, dict)):
                    self.assertEqual(first, self.told(lambda: getattr(one, name)(*arguments)))
                    first.clear()
                    self.assertEqual(second, self.told(lambda: getattr(one, name)(*arguments)))

    def test_no_list_that_was_passed_is_kept(self):
        names = ["m", "n"]
        fleet, hall = Fleet(names), Hall(names, 3, 0, (((), (), (("a", 1),)),), SightRunner(3, 0))
        names.clear()
        self.assertEqual([fleet.names(), sorted(hall.states())], [["m", "n"], ["m", "n"]])
        self.assertEqual(hall.step(), (1, 1, 1))

    def test_papers_are_plain(self):
        def plain(value):
            return type(value) is int or type(value) is tuple and all(map(plain, value))
        p, q = least_factor(W, 4)
        for paper in (rule_paper(W, 4, p, q), player_paper(W, 4, 1, 1), inner_paper(W, 4)):
            self.assertTrue(plain(paper))


if __name__ == "__main__":
    unittest.main()
