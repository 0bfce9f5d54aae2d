"""The interface: that each name is there as listed, and what holds of all functions."""

import copy
import importlib
import inspect
import unittest

FUNCTIONS = {
    "words": {"is_name": ["value"], "is_integer": ["value"], "is_number": ["value"]},
    "sheets": {"check_sheet": ["value"], "check_numbers": ["value"], "check_slots": ["value"], "check_rule": ["value"],
               "slot_cost": ["slot", "x"], "part_named": ["sheet", "name"], "names_of": ["sheet", "word"]},
    "lexemes": {"lexemes": ["text"]},
    "sheettexts": {"sheet_text": ["sheet"], "runs_text": ["numbers"], "read_runs": ["text"], "read_sheet": ["text"]},
    "slots": {"plain_slot": ["need", "most", "price"], "slot_of": ["need", "costs"], "ended": ["slots", "x"],
              "bare": ["slots"]},
    "rows": {"serves": ["slots", "row"], "starts": ["row"], "stops": ["row"], "running_cost": ["slots", "row"],
             "row_cost": ["slots", "b", "row"]},
    "works": {"worth_at": ["work", "x"], "sum_of": ["one", "other"], "held": ["work", "b", "low", "high"],
              "work_after": ["work", "slot", "b"], "works_of": ["slots", "b"], "low_of": ["work"],
              "high_of": ["work", "b"], "least_cost": ["slots", "b"], "least_costs": ["slots", "b"]},
    "valleys": {"layer": ["row", "k"], "gaps": ["row", "k"], "valleys": ["needs"]},
    "layers": {"least_by_layers": ["needs", "b"], "least_so_far": ["needs", "b"], "best_by_layers": ["needs", "b"],
               "row_layers": ["row"]},
    "needpapers": {"need_paper": ["needs", "b", "m"], "judge_need_paper": ["needs", "b", "m", "value"]},
    "bestrows": {"best_row": ["slots", "b"], "bound_of": ["slots", "b", "prices"], "least_numbers": ["slot", "price"]},
    "papers": {"prices_for": ["slots", "b", "row"], "paper_of": ["slots", "b"], "judge_paper": ["slots", "b", "value"]},
    "budgets": {"least_starts": ["slots"], "starts_paper": ["slots"], "budget_cost": ["slots", "s"],
                "budget_paper": ["slots", "s"], "judge_budget": ["slots", "s", "value"]},
    "runners": {"inner_low": ["work"], "inner_high": ["work", "b"], "run": ["runner", "row", "w"]},
    "sight": {"sight_row": ["needs", "b", "w"], "tails": ["needs"], "sight_cost": ["needs", "b", "w"],
              "sight_room": ["needs", "b", "w"]},
    "lazy": {"lazy_row": ["slots", "b"], "lazy_account": ["slots", "b"]},
    "inner": {"inner_row": ["slots", "b"], "inner_account": ["slots", "b"]},
    "players": {"play_needs": ["b", "w", "laps", "runner"], "play_slots": ["b", "ticks", "runner"],
                "laps_for": ["b", "w", "factor"], "ticks_for": ["b", "factor"]},
    "plays": {"judge_need_play": ["b", "w", "laps", "value"], "judge_slot_play": ["b", "ticks", "value"],
              "need_costs": ["b", "play"], "slot_costs": ["b", "play"], "slot_account": ["b", "play"],
              "need_gain": ["b", "w", "play"], "slot_gain": ["b", "play"], "is_beaten": ["factor", "costs"]},
    "places": {"size": ["rule", "b"], "ready_steps": ["b", "most", "needs"], "least_by_steps": ["b", "needs"],
               "first_place": ["rule", "b"], "led": ["rule", "b", "place", "need"], "places": ["rule", "b"]},
    "rules": {"rule_row": ["rule", "needs"], "rule_cost": ["rule", "b", "needs"], "unmet": ["rule"], "serving_paper": ["rule", "m"],
              "judge_serving": ["rule", "m", "value"], "sight_rule": ["b", "most"]},
    "factors": {"factor": ["rule", "b"], "paper_of_none": ["rule", "b"], "kept_paper": ["rule", "b", "p", "q"],
                "met_paper": ["rule", "b", "p", "q"], "judge_kept": ["rule", "b", "p", "q", "value"],
                "judge_met": ["rule", "b", "p", "q", "value"], "judge_none": ["rule", "b", "value"],
                "excess": ["rule", "b", "p", "q"], "excess_paper": ["rule", "b", "p", "q"], "excess_row": ["rule", "b", "p", "q"]},
    "menus": {"check_menu": ["value"], "menu_size": ["menu", "b"], "steps_behind": ["steps", "slot", "b"],
              "first_place": ["menu", "b"], "turn": ["menu", "b", "place", "call", "x"]},
    "bestrules": {"worst_factor": ["b"], "least_factor": ["menu", "b"], "rule_paper": ["menu", "b", "p", "q"],
                  "player_paper": ["menu", "b", "p", "q"], "lower_paper": ["menu", "b"], "inner_paper": ["menu", "b"],
                  "judge_rule_paper": ["menu", "b", "p", "q", "value"], "judge_player_paper": ["menu", "b", "p", "q", "value"],
                  "judge_lower_paper": ["menu", "b", "p", "q", "value"]},
    "playing": {"played": ["menu", "b", "paper", "runner", "ticks"]},
    "requests": {"check_day": ["names", "value"], "day_needs": ["day"]},
    "books": {"total": ["books"], "tick_costs": ["books", "ticks"], "machine_costs": ["books"], "bills": ["books"]},
}

CLASSES = {"errors": ["ScaleError", "BadText", "BadTree", "TooGreat", "BadAct", "BadAsk", "NotServed", "NothingDone",
                      "NameMissing", "UnknownName"],
           "runners": ["SightRunner", "LazyRunner", "InnerRunner", "CallRunner", "RuleRunner", "RowRunner"],
           "playing": ["PaperRunner", "PaperPlayer"], "machines": ["Fleet"], "hall": ["Hall"], "desk": ["Desk"],
           "console": ["Console"]}

# The classes that have methods: what they are made with, and their methods.
METHODS = {
    ("runners", "SightRunner"): (["b", "w"], {"look": ["seen"]}),
    ("runners", "LazyRunner"): (["b"], {"look": ["seen"]}),
    ("runners", "InnerRunner"): (["b"], {"look": ["seen"]}),
    ("runners", "CallRunner"): (["call"], {"look": ["seen"]}),
    ("runners", "RuleRunner"): (["rule"], {"look": ["seen"]}),
    ("runners", "RowRunner"): (["row"], {"look": ["seen"]}),
    ("playing", "PaperRunner"): (["menu", "b", "paper"], {"look": ["seen"], "here": []}),
    ("playing", "PaperPlayer"): (["menu", "b", "paper"], {"next_call": [], "answer": ["x"], "here": []}),
    ("machines", "Fleet"): (["names"], {
        "tick": [], "names": [], "state": ["name"], "those": ["word"], "many_on": [], "fall": ["name"], "mend": ["name"],
        "free": ["name"], "set_to": ["x"], "take": ["request"], "go_on": []}),
    ("hall", "Hall"): (["names", "b", "w", "day", "runner"], {
        "tick": [], "is_over": [], "step": [], "states": [], "waiting": [], "served": [], "needs": [], "row": [],
        "unmet": [], "books": []}),
    ("desk", "Desk"): ([], {
        "sheet": [], "act_word": ["act"], "do": ["act"], "undo": [], "redo": [], "acts": [], "least": ["name"],
        "paid": ["name"], "quotient": ["name"], "runs": ["name"], "factor": ["name"], "unmet": ["name"],
        "price": ["name", "needs"], "best": ["name"], "inside": ["name"], "menu": ["name"],
        "paper": ["row", "prices", "slots"], "work": [], "mark": ["name"], "since": ["name"], "marks": [], "twin": []}),
    ("console", "Console"): (["desk"], {"answer": ["line"]}),
}

V = ((1, 2, 1, (1,)), (0, 2, 0, (1, 1)), (0, 2, 0, (1, 1)), (1, 2, 1, (1,)))
Z = (2, 0, 0, 3, 1, 2)
RULE = (1, (((0, 0), (1, 0)),))
SHEET = (3, 1, (("needs", "z", Z), ("slots", "v", V), ("rule", "r", RULE), ("row", "none", ())))
WORK = (0, 2, 4, (1, 4))
MIXED = [1, [2, {"a": [3]}], ("b", [None, True])]
NEED_PAPER = (((1, 2, 0, 2), 2), ((4, 1, 1, 2), 1))
BUDGET_PAPER = (2, (1, 1, 1, 1), (2, 0, 1, 2))
NEED_PLAY = ((1, 0, 0, 1, 0, 0), (1, 0, 0, 1, 0, 0))
SLOT_PLAY = (((0, 1, 1, (-1,)), (0, 1, 0, (1,))), (1, 0))


K = (1, (((0, 0), (1, 1)), ((1, 0), (1, 1))))
STAYS = (1, (((0, 0), (1, 1)), ((1, 1), (1, 1))))
UNFIT = (1, (((0, 0), (0, 0)),))
W = ((0, 1, 1, (-1,)), (0, 1, 0, (1,)))
KEPT = (((0, 0, (2,)), 0), ((0, 1, (1,)), 0), ((1, 1, (0,)), -3))
RULE_PAPER = (((0, (1,)), (1, 0), -1), ((0, (2,)), (0, 0), 0), ((1, (0,)), (1, 1), -1), ((1, (1,)), (1, 0), 0))
PLAYER_PAPER = (6, (((0, (0,)), 0, -12), ((0, (1,)), 0, -6), ((0, (2,)), 0, 0), ((1, (0,)), 1, -1), ((1, (1,)), 1, 4), ((1, (2,)), 1, 9)))
DAY = ((("m",), ("n",), (("a", 2), ("b", 1))), ((), (), (("c", 3),)), ((), (), ()))
BOOKS = [(0, "start", "m", None, 3), (0, "work", "m", "a", 1), (2, "idle", "m", None, 1)]


class Fresh:
    """A runner without a state: so it stands at its first tick in each call."""

    def look(self, seen):
        return 1


# Calls of each function, as ordinary and as wrong ones as may be.
CALLS = [
    ("words", "is_name", "a"), ("words", "is_name", MIXED), ("words", "is_integer", 5), ("words", "is_integer", MIXED),
    ("words", "is_number", -5), ("words", "is_number", {"a": [1]}),
    ("sheets", "check_sheet", SHEET), ("sheets", "check_sheet", MIXED), ("sheets", "check_sheet", (1, 0, [[1]])),
    ("sheets", "check_sheet", (1, 0, (["row", "a", [1]],))), ("sheets", "check_numbers", Z), ("sheets", "check_numbers", [1]),
    ("sheets", "check_slots", V), ("sheets", "check_slots", ([1, 2, 3, [4]],)), ("sheets", "check_rule", RULE),
    ("sheets", "check_rule", (1, [[1, 2]])), ("sheets", "slot_cost", V[0], 1), ("sheets", "slot_cost", V[0], 7),
    ("sheets", "part_named", SHEET, "v"), ("sheets", "part_named", SHEET, MIXED), ("sheets", "names_of", SHEET, "slots"),
    ("lexemes", "lexemes", "a 1 -> 2"), ("lexemes", "lexemes", "a > 2"),
    ("sheettexts", "sheet_text", SHEET), ("sheettexts", "runs_text", Z), ("sheettexts", "read_runs", "1 x 2, 3"),
    ("sheettexts", "read_runs", "1 x -2"), ("sheettexts", "read_runs", "1 x 100001"),
    ("sheettexts", "read_sheet", "sheet { start 2; sight 0; slots s [0 1 3: -2]; }"),
    ("sheettexts", "read_sheet", "sheet { }"), ("sheettexts", "read_sheet", "sheet { start 0; sight 0; }"),
    ("slots", "plain_slot", 1, 2, 1), ("slots", "slot_of", 2, (2, 3, 4, 8)), ("slots", "slot_of", 2, (2, 3, 3)),
    ("slots", "ended", V, 2), ("slots", "bare", V),
    ("rows", "serves", V, (1, 1, 1, 1)), ("rows", "serves", V, (0, 1, 1, 1)), ("rows", "starts", Z), ("rows", "stops", Z),
    ("rows", "running_cost", V, (1, 1, 1, 1)), ("rows", "row_cost", V, 3, (1, 1, 1, 1)), ("rows", "row_cost", V, 3, (0,) * 4),
    ("works", "worth_at", WORK, 1), ("works", "sum_of", WORK, V[0]), ("works", "held", WORK, 3, 1, 5),
    ("works", "work_after", WORK, V[3], 3), ("works", "works_of", V, 3), ("works", "low_of", WORK),
    ("works", "high_of", WORK, 3), ("works", "least_cost", V, 3), ("works", "least_costs", V, 3),
    ("valleys", "layer", Z, 2), ("valleys", "gaps", Z, 2), ("valleys", "valleys", Z),
    ("layers", "least_by_layers", Z, 2), ("layers", "least_so_far", Z, 2), ("layers", "best_by_layers", Z, 2),
    ("layers", "row_layers", Z),
    ("needpapers", "need_paper", Z, 2, 19), ("needpapers", "need_paper", Z, 2, 20),
    ("needpapers", "judge_need_paper", Z, 2, 19, NEED_PAPER), ("needpapers", "judge_need_paper", Z, 2, 19, MIXED),
    ("bestrows", "best_row", V, 3), ("bestrows", "bound_of", V, 3, (3, 1, 2, 3)), ("bestrows", "least_numbers", V[1], -1),
    ("papers", "prices_for", V, 3, (1, 1, 1, 1)), ("papers", "paper_of", V, 3),
    ("papers", "judge_paper", V, 3, ((1, 1, 1, 1), (3, 1, 2, 3))), ("papers", "judge_paper", V, 3, MIXED),
    ("papers", "judge_paper", V, 3, [[1, 1, 1, 1], [3, 1, 2, 3]]), ("budgets", "least_starts", V), ("budgets", "starts_paper", V),
    ("budgets", "budget_cost", V, 1), ("budgets", "budget_cost", V, 0), ("budgets", "budget_paper", V, 1),
    ("budgets", "budget_paper", V, 0), ("budgets", "judge_budget", V, 1, BUDGET_PAPER), ("budgets", "judge_budget", V, 2, BUDGET_PAPER),
    ("budgets", "judge_budget", V, 1, MIXED),
    ("runners", "inner_low", WORK), ("runners", "inner_high", WORK, 3), ("runners", "run", Fresh(), Z, 1),
    ("runners", "run", Fresh(), [2, 0, 0], 0), ("runners", "run", Fresh(), V, 0),
    ("sight", "sight_row", Z, 3, 1), ("sight", "tails", (3, 1, 0)), ("sight", "sight_cost", Z, 3, 1), ("sight", "sight_room", Z, 3, 1),
    ("lazy", "lazy_row", V, 3), ("lazy", "lazy_account", V, 3), ("inner", "inner_row", V, 3), ("inner", "inner_account", V, 3),
    ("players", "play_needs", 3, 1, 2, Fresh()), ("players", "play_slots", 3, 4, Fresh()),
    ("players", "laps_for", 3, 1, (6, 5)), ("players", "ticks_for", 3, (2, 1)),
    ("plays", "judge_need_play", 3, 1, 2, NEED_PLAY), ("plays", "judge_need_play", 3, 1, 2, MIXED),
    ("plays", "judge_need_play", 3, 1, 3, NEED_PLAY), ("plays", "judge_slot_play", 3, 2, SLOT_PLAY),
    ("plays", "judge_slot_play", 3, 2, MIXED), ("plays", "judge_slot_play", 3, 2, (([0, 1, 1, [-1]],), ([1],))),
    ("plays", "need_costs", 3, NEED_PLAY), ("plays", "slot_costs", 3, SLOT_PLAY), ("plays", "slot_account", 3, SLOT_PLAY),
    ("plays", "need_gain", 3, 1, NEED_PLAY), ("plays", "slot_gain", 3, SLOT_PLAY), ("plays", "is_beaten", (5, 4), (8, 7)),
    ("places", "size", RULE, 2), ("places", "ready_steps", 2, 1, [1, 0]), ("places", "least_by_steps", 2, [1, 0]),
    ("places", "first_place", RULE, 2), ("places", "first_place", RULE, 10 ** 5), ("places", "led", RULE, 2, (0, 0, (2,)), 1),
    ("places", "led", RULE, 10 ** 5, (0, 0, (2,)), 1), ("places", "places", RULE, 2), ("places", "places", RULE, 10 ** 5),
    ("rules", "rule_row", K, [1, 0, 0, 1]), ("rules", "rule_cost", K, 2, [1, 0, 0, 1]), ("rules", "unmet", K), ("rules", "unmet", UNFIT),
    ("rules", "serving_paper", K, None), ("rules", "serving_paper", UNFIT, 1), ("rules", "serving_paper", UNFIT, 2),
    ("rules", "judge_serving", K, None, (0, 1)), ("rules", "judge_serving", K, 3, MIXED), ("rules", "judge_serving", K, 3, (0, None)),
    ("rules", "sight_rule", 3, 2),
    ("factors", "factor", K, 2), ("factors", "factor", STAYS, 2), ("factors", "factor", K, 10 ** 5), ("factors", "paper_of_none", STAYS, 2),
    ("factors", "paper_of_none", K, 2), ("factors", "kept_paper", K, 2, 4, 3), ("factors", "kept_paper", K, 2, 1, 1),
    ("factors", "met_paper", K, 2, 8, 6), ("factors", "met_paper", K, 2, 2, 1), ("factors", "judge_kept", K, 2, 4, 3, KEPT),
    ("factors", "judge_kept", K, 2, 4, 3, MIXED), ("factors", "judge_kept", K, 10 ** 5, 4, 3, MIXED), ("factors", "judge_met", K, 2, 4, 3, ((), (1, 0, 0))),
    ("factors", "judge_met", K, 2, 4, 3, [[], [1]]), ("factors", "judge_none", STAYS, 2, ((1, 0, 0), (0,))), ("factors", "judge_none", K, 2, MIXED),
    ("factors", "excess", K, 2, 4, 3), ("factors", "excess", K, 2, 1, 1), ("factors", "excess_paper", K, 2, 3, 2), ("factors", "excess_row", K, 2, 3, 2),
    ("menus", "check_menu", W), ("menus", "check_menu", MIXED), ("menus", "check_menu", W + W), ("menus", "menu_size", W, 3),
    ("menus", "steps_behind", (3,), W[0], 3), ("menus", "first_place", W, 3), ("menus", "turn", W, 3, (0, (3,)), 1, 1),
    ("bestrules", "worst_factor", 4), ("bestrules", "least_factor", W, 2), ("bestrules", "least_factor", W, 150), ("bestrules", "rule_paper", W, 2, 2, 1),
    ("bestrules", "rule_paper", W, 2, 3, 2), ("bestrules", "player_paper", W, 2, 3, 2), ("bestrules", "player_paper", W, 2, 2, 1), ("bestrules", "lower_paper", W, 2),
    ("bestrules", "inner_paper", W, 2), ("bestrules", "judge_rule_paper", W, 2, 2, 1, RULE_PAPER), ("bestrules", "judge_rule_paper", W, 2, 2, 1, MIXED),
    ("bestrules", "judge_player_paper", W, 2, 3, 2, PLAYER_PAPER), ("bestrules", "judge_player_paper", W, 2, 3, 2, MIXED),
    ("bestrules", "judge_lower_paper", W, 2, 2, 1, PLAYER_PAPER), ("bestrules", "judge_lower_paper", W, 150, 2, 1, MIXED),
    ("playing", "played", W, 2, PLAYER_PAPER, Fresh(), 5),
    ("requests", "check_day", ["m", "n"], DAY), ("requests", "check_day", ["m"], DAY), ("requests", "check_day", ["m"], MIXED), ("requests", "day_needs", DAY),
    ("books", "total", BOOKS), ("books", "tick_costs", BOOKS, 2), ("books", "machine_costs", BOOKS), ("books", "bills", BOOKS),
]


def module_of(name):
    return importlib.import_module("wakedenough." + name)


def outcome(call):
    """What a call returns, or the class and the attributes of what it raises."""
    function = getattr(module_of(call[0]), call[1])
    try:
        return ("returned", function(*call[2:]))
    except (ValueError, LookupError) as error:
        return ("raised", type(error), vars(error))


def parts_of(value):
    """A value and all that is in it."""
    yield value
    if isinstance(value, (list, tuple)):
        for member in value:
            yield from parts_of(member)
    if isinstance(value, dict):
        for key, member in value.items():
            yield from parts_of((key, member))


class Names(unittest.TestCase):
    def test_functions(self):
        for file, functions in FUNCTIONS.items():
            for name, arguments in functions.items():
                function = getattr(module_of(file), name)
                self.assertTrue(inspect.isfunction(function), name)
                self.assertEqual(function.__module__, "wakedenough." + file, name)
                parameters = inspect.signature(function).parameters.values()
                self.assertEqual([parameter.name for parameter in parameters], arguments, name)
                self.assertTrue(all(parameter.default is parameter.empty for parameter in parameters), name)

    def test_classes(self):
        for file, classes in CLASSES.items():
            for name in classes:
                found = getattr(module_of(file), name)
                self.assertTrue(inspect.isclass(found), name)
                self.assertEqual(found.__module__, "wakedenough." + file, name)

    def test_methods(self):
        for (file, name), (made_with, methods) in METHODS.items():
            found = getattr(module_of(file), name)
            self.assertEqual(list(inspect.signature(found).parameters), made_with, name)
            for method, arguments in methods.items():
                self.assertIn(method, vars(found), name)
                self.assertEqual(list(inspect.signature(vars(found)[method]).parameters), ["self", *arguments], name)

    def test_nothing(self):
        self.assertEqual(module_of("works").NOTHING, (0, 0, 0, ()))


class Calls(unittest.TestCase):
    def test_each_function_is_called_here(self):
        called = {(call[0], call[1]) for call in CALLS}
        self.assertEqual(called, {(file, name) for file in FUNCTIONS for name in FUNCTIONS[file]})

    def test_no_argument_is_changed(self):
        for call in CALLS:
            kept = copy.deepcopy([part for part in call if not isinstance(part, Fresh)])
            outcome(call)
            self.assertEqual([part for part in call if not isinstance(part, Fresh)], kept)

    def test_a_call_that_is_repeated_gives_the_same(self):
        for call in CALLS:
            self.assertEqual(outcome(call), outcome(copy.deepcopy(call)), call)

    def test_what_is_returned_is_plain(self):
        for call in CALLS:
            for part in parts_of(outcome(call)[1]) if outcome(call)[0] == "returned" else []:
                self.assertIn(type(part), (int, str, bool, list, tuple, dict, type(None)), call)
                if type(part) is bool:
                    self.assertIn(call[1], ("is_name", "is_integer", "is_number", "serves", "is_beaten"))

    def test_what_is_returned_as_a_list_is_new(self):
        for call in CALLS:
            one, other = outcome(call), outcome(call)
            if isinstance(one[1], (list, dict)):
                self.assertIsNot(one[1], other[1], call)
                one[1].clear()
                self.assertEqual(outcome(call), other, call)


if __name__ == "__main__":
    unittest.main()
