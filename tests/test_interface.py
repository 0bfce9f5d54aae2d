"""The interface: that each name is there as listed, and what holds of all functions."""

import copy
import importlib
import inspect
import unittest

FUNCTIONS = {
    "words": {"is_name": ["value"], "is_integer": ["value"], "is_number": ["value"]},
    "sheets": {"check_sheet": ["value"], "check_numbers": ["value"], "check_slots": ["value"], "check_rule": ["value"],
               "slot_cost": ["slot", "x"], "part_named": ["sheet", "name"], "names_of": ["sheet", "word"]},
    "lexemes": {"lexemes": ["text"]},
    "sheettexts": {"sheet_text": ["sheet"], "runs_text": ["numbers"], "read_runs": ["text"], "read_sheet": ["text"]},
    "slots": {"plain_slot": ["need", "most", "price"], "slot_of": ["need", "costs"], "ended": ["slots", "x"],
              "bare": ["slots"]},
    "rows": {"serves": ["slots", "row"], "starts": ["row"], "stops": ["row"], "running_cost": ["slots", "row"],
             "row_cost": ["slots", "b", "row"]},
    "works": {"worth_at": ["work", "x"], "sum_of": ["one", "other"], "held": ["work", "b", "low", "high"],
              "work_after": ["work", "slot", "b"], "works_of": ["slots", "b"], "low_of": ["work"],
              "high_of": ["work", "b"], "least_cost": ["slots", "b"], "least_costs": ["slots", "b"]},
    "valleys": {"layer": ["row", "k"], "gaps": ["row", "k"], "valleys": ["needs"]},
    "layers": {"least_by_layers": ["needs", "b"], "least_so_far": ["needs", "b"], "best_by_layers": ["needs", "b"],
               "row_layers": ["row"]},
    "needpapers": {"need_paper": ["needs", "b", "m"], "judge_need_paper": ["needs", "b", "m", "value"]},
    "bestrows": {"best_row": ["slots", "b"], "bound_of": ["slots", "b", "prices"], "least_numbers": ["slot", "price"]},
    "papers": {"prices_for": ["slots", "b", "row"], "paper_of": ["slots", "b"], "judge_paper": ["slots", "b", "value"]},
    "budgets": {"least_starts": ["slots"], "starts_paper": ["slots"], "budget_cost": ["slots", "s"],
                "budget_paper": ["slots", "s"], "judge_budget": ["slots", "s", "value"]},
    "runners": {"inner_low": ["work"], "inner_high": ["work", "b"], "run": ["runner", "row", "w"]},
    "sight": {"sight_row": ["needs", "b", "w"], "tails": ["needs"], "sight_cost": ["needs", "b", "w"],
              "sight_room": ["needs", "b", "w"]},
    "lazy": {"lazy_row": ["slots", "b"], "lazy_account": ["slots", "b"]},
    "inner": {"inner_row": ["slots", "b"], "inner_account": ["slots", "b"]},
    "players": {"play_needs": ["b", "w", "laps", "runner"], "play_slots": ["b", "ticks", "runner"],
                "laps_for": ["b", "w", "factor"], "ticks_for": ["b", "factor"]},
    "plays": {"judge_need_play": ["b", "w", "laps", "value"], "judge_slot_play": ["b", "ticks", "value"],
              "need_costs": ["b", "play"], "slot_costs": ["b", "play"], "slot_account": ["b", "play"],
              "need_gain": ["b", "w", "play"], "slot_gain": ["b", "play"], "is_beaten": ["factor", "costs"]},
    "places": {"size": ["rule", "b"], "ready_steps": ["b", "most", "needs"], "least_by_steps": ["b", "needs"],
               "first_place": ["rule", "b"], "led": ["rule", "b", "place", "need"], "places": ["rule", "b"]},
}

CLASSES = {"errors": ["ScaleError", "BadText", "BadTree", "TooGreat", "BadAct", "BadAsk", "NotServed", "NothingDone",
                      "NameMissing", "UnknownName"],
           "runners": ["SightRunner", "LazyRunner", "InnerRunner", "CallRunner", "RuleRunner", "RowRunner"]}

# The classes that have methods: what they are made with, and their methods.
METHODS = {
    ("runners", "SightRunner"): (["b", "w"], {"look": ["seen"]}),
    ("runners", "LazyRunner"): (["b"], {"look": ["seen"]}),
    ("runners", "InnerRunner"): (["b"], {"look": ["seen"]}),
    ("runners", "CallRunner"): (["call"], {"look": ["seen"]}),
    ("runners", "RuleRunner"): (["rule"], {"look": ["seen"]}),
    ("runners", "RowRunner"): (["row"], {"look": ["seen"]}),
}

V = ((1, 2, 1, (1,)), (0, 2, 0, (1, 1)), (0, 2, 0, (1, 1)), (1, 2, 1, (1,)))
Z = (2, 0, 0, 3, 1, 2)
RULE = (1, (((0, 0), (1, 0)),))
SHEET = (3, 1, (("needs", "z", Z), ("slots", "v", V), ("rule", "r", RULE), ("row", "none", ())))
WORK = (0, 2, 4, (1, 4))
MIXED = [1, [2, {"a": [3]}], ("b", [None, True])]
NEED_PAPER = (((1, 2, 0, 2), 2), ((4, 1, 1, 2), 1))
BUDGET_PAPER = (2, (1, 1, 1, 1), (2, 0, 1, 2))
NEED_PLAY = ((1, 0, 0, 1, 0, 0), (1, 0, 0, 1, 0, 0))
SLOT_PLAY = (((0, 1, 1, (-1,)), (0, 1, 0, (1,))), (1, 0))


class Fresh:
    """A runner without a state: so it stands at its first tick in each call."""

    def look(self, seen):
        return 1


# Calls of each function, as ordinary and as wrong ones as may be.
CALLS = [
    ("words", "is_name", "a"), ("words", "is_name", MIXED), ("words", "is_integer", 5), ("words", "is_integer", MIXED),
    ("words", "is_number", -5), ("words", "is_number", {"a": [1]}),
    ("sheets", "check_sheet", SHEET), ("sheets", "check_sheet", MIXED), ("sheets", "check_sheet", (1, 0, [[1]])),
    ("sheets", "check_sheet", (1, 0, (["row", "a", [1]],))), ("sheets", "check_numbers", Z), ("sheets", "check_numbers", [1]),
    ("sheets", "check_slots", V), ("sheets", "check_slots", ([1, 2, 3, [4]],)), ("sheets", "check_rule", RULE),
    ("sheets", "check_rule", (1, [[1, 2]])), ("sheets", "slot_cost", V[0], 1), ("sheets", "slot_cost", V[0], 7),
    ("sheets", "part_named", SHEET, "v"), ("sheets", "part_named", SHEET, MIXED), ("sheets", "names_of", SHEET, "slots"),
    ("lexemes", "lexemes", "a 1 -> 2"), ("lexemes", "lexemes", "a > 2"),
    ("sheettexts", "sheet_text", SHEET), ("sheettexts", "runs_text", Z), ("sheettexts", "read_runs", "1 x 2, 3"),
    ("sheettexts", "read_runs", "1 x -2"), ("sheettexts", "read_runs", "1 x 100001"),
    ("sheettexts", "read_sheet", "sheet { start 2; sight 0; slots s [0 1 3: -2]; }"),
    ("sheettexts", "read_sheet", "sheet { }"), ("sheettexts", "read_sheet", "sheet { start 0; sight 0; }"),
    ("slots", "plain_slot", 1, 2, 1), ("slots", "slot_of", 2, (2, 3, 4, 8)), ("slots", "slot_of", 2, (2, 3, 3)),
    ("slots", "ended", V, 2), ("slots", "bare", V),
    ("rows", "serves", V, (1, 1, 1, 1)), ("rows", "serves", V, (0, 1, 1, 1)), ("rows", "starts", Z), ("rows", "stops", Z),
    ("rows", "running_cost", V, (1, 1, 1, 1)), ("rows", "row_cost", V, 3, (1, 1, 1, 1)), ("rows", "row_cost", V, 3, (0,) * 4),
    ("works", "worth_at", WORK, 1), ("works", "sum_of", WORK, V[0]), ("works", "held", WORK, 3, 1, 5),
    ("works", "work_after", WORK, V[3], 3), ("works", "works_of", V, 3), ("works", "low_of", WORK),
    ("works", "high_of", WORK, 3), ("works", "least_cost", V, 3), ("works", "least_costs", V, 3),
    ("valleys", "layer", Z, 2), ("valleys", "gaps", Z, 2), ("valleys", "valleys", Z),
    ("layers", "least_by_layers", Z, 2), ("layers", "least_so_far", Z, 2), ("layers", "best_by_layers", Z, 2),
    ("layers", "row_layers", Z),
    ("needpapers", "need_paper", Z, 2, 19), ("needpapers", "need_paper", Z, 2, 20),
    ("needpapers", "judge_need_paper", Z, 2, 19, NEED_PAPER), ("needpapers", "judge_need_paper", Z, 2, 19, MIXED),
    ("bestrows", "best_row", V, 3), ("bestrows", "bound_of", V, 3, (3, 1, 2, 3)), ("bestrows", "least_numbers", V[1], -1),
    ("papers", "prices_for", V, 3, (1, 1, 1, 1)), ("papers", "paper_of", V, 3),
    ("papers", "judge_paper", V, 3, ((1, 1, 1, 1), (3, 1, 2, 3))), ("papers", "judge_paper", V, 3, MIXED),
    ("papers", "judge_paper", V, 3, [[1, 1, 1, 1], [3, 1, 2, 3]]), ("budgets", "least_starts", V), ("budgets", "starts_paper", V),
    ("budgets", "budget_cost", V, 1), ("budgets", "budget_cost", V, 0), ("budgets", "budget_paper", V, 1),
    ("budgets", "budget_paper", V, 0), ("budgets", "judge_budget", V, 1, BUDGET_PAPER), ("budgets", "judge_budget", V, 2, BUDGET_PAPER),
    ("budgets", "judge_budget", V, 1, MIXED),
    ("runners", "inner_low", WORK), ("runners", "inner_high", WORK, 3), ("runners", "run", Fresh(), Z, 1),
    ("runners", "run", Fresh(), [2, 0, 0], 0), ("runners", "run", Fresh(), V, 0),
    ("sight", "sight_row", Z, 3, 1), ("sight", "tails", (3, 1, 0)), ("sight", "sight_cost", Z, 3, 1), ("sight", "sight_room", Z, 3, 1),
    ("lazy", "lazy_row", V, 3), ("lazy", "lazy_account", V, 3), ("inner", "inner_row", V, 3), ("inner", "inner_account", V, 3),
    ("players", "play_needs", 3, 1, 2, Fresh()), ("players", "play_slots", 3, 4, Fresh()),
    ("players", "laps_for", 3, 1, (6, 5)), ("players", "ticks_for", 3, (2, 1)),
    ("plays", "judge_need_play", 3, 1, 2, NEED_PLAY), ("plays", "judge_need_play", 3, 1, 2, MIXED),
    ("plays", "judge_need_play", 3, 1, 3, NEED_PLAY), ("plays", "judge_slot_play", 3, 2, SLOT_PLAY),
    ("plays", "judge_slot_play", 3, 2, MIXED), ("plays", "judge_slot_play", 3, 2, (([0, 1, 1, [-1]],), ([1],))),
    ("plays", "need_costs", 3, NEED_PLAY), ("plays", "slot_costs", 3, SLOT_PLAY), ("plays", "slot_account", 3, SLOT_PLAY),
    ("plays", "need_gain", 3, 1, NEED_PLAY), ("plays", "slot_gain", 3, SLOT_PLAY), ("plays", "is_beaten", (5, 4), (8, 7)),
    ("places", "size", RULE, 2), ("places", "ready_steps", 2, 1, [1, 0]), ("places", "least_by_steps", 2, [1, 0]),
    ("places", "first_place", RULE, 2), ("places", "first_place", RULE, 10 ** 5), ("places", "led", RULE, 2, (0, 0, (2,)), 1),
    ("places", "led", RULE, 10 ** 5, (0, 0, (2,)), 1), ("places", "places", RULE, 2), ("places", "places", RULE, 10 ** 5),
]


def module_of(name):
    return importlib.import_module("wakedenough." + name)


def outcome(call):
    """What a call returns, or the class and the attributes of what it raises."""
    function = getattr(module_of(call[0]), call[1])
    try:
        return ("returned", function(*call[2:]))
    except (ValueError, LookupError) as error:
        return ("raised", type(error), vars(error))


def parts_of(value):
    """A value and all that is in it."""
    yield value
    if isinstance(value, (list, tuple)):
        for member in value:
            yield from parts_of(member)


class Names(unittest.TestCase):
    def test_functions(self):
        for file, functions in FUNCTIONS.items():
            for name, arguments in functions.items():
                function = getattr(module_of(file), name)
                self.assertTrue(inspect.isfunction(function), name)
                self.assertEqual(function.__module__, "wakedenough." + file, name)
                parameters = inspect.signature(function).parameters.values()
                self.assertEqual([parameter.name for parameter in parameters], arguments, name)
                self.assertTrue(all(parameter.default is parameter.empty for parameter in parameters), name)

    def test_classes(self):
        for file, classes in CLASSES.items():
            for name in classes:
                found = getattr(module_of(file), name)
                self.assertTrue(inspect.isclass(found), name)
                self.assertEqual(found.__module__, "wakedenough." + file, name)

    def test_methods(self):
        for (file, name), (made_with, methods) in METHODS.items():
            found = getattr(module_of(file), name)
            self.assertEqual(list(inspect.signature(found).parameters), made_with, name)
            for method, arguments in methods.items():
                self.assertIn(method, vars(found), name)
                self.assertEqual(list(inspect.signature(vars(found)[method]).parameters), ["self", *arguments], name)

    def test_nothing(self):
        self.assertEqual(module_of("works").NOTHING, (0, 0, 0, ()))


class Calls(unittest.TestCase):
    def test_each_function_is_called_here(self):
        called = {(call[0], call[1]) for call in CALLS}
        self.assertEqual(called, {(file, name) for file in FUNCTIONS for name in FUNCTIONS[file]})

    def test_no_argument_is_changed(self):
        for call in CALLS:
            kept = copy.deepcopy([part for part in call if not isinstance(part, Fresh)])
            outcome(call)
            self.assertEqual([part for part in call if not isinstance(part, Fresh)], kept)

    def test_a_call_that_is_repeated_gives_the_same(self):
        for call in CALLS:
            self.assertEqual(outcome(call), outcome(copy.deepcopy(call)), call)

    def test_what_is_returned_is_plain(self):
        for call in CALLS:
            for part in parts_of(outcome(call)[1]) if outcome(call)[0] == "returned" else []:
                self.assertIn(type(part), (int, str, bool, list, tuple, type(None)), call)
                if type(part) is bool:
                    self.assertIn(call[1], ("is_name", "is_integer", "is_number", "serves", "is_beaten"))

    def test_what_is_returned_as_a_list_is_new(self):
        for call in CALLS:
            one, other = outcome(call), outcome(call)
            if isinstance(one[1], list):
                self.assertIsNot(one[1], other[1], call)
                one[1].append("more")
                self.assertEqual(outcome(call), other, call)


if __name__ == "__main__":
    unittest.main()
