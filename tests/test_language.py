"""The files of the package keep to the small language that they are written in."""

import ast
import builtins
import functools
import pathlib
import re
import unittest

ROOT = pathlib.Path(__file__).resolve().parent.parent
FOLDER = ROOT / "wakedenough"

BUILTINS = set("""len range enumerate zip min max sum abs sorted reversed int str bool list tuple dict set isinstance
    ord repr any all divmod ValueError LookupError""".split())

METHODS = set("""append clear copy count endswith extend find get index insert isalnum isalpha isdigit islower isspace
    isupper items join keys ljust lower lstrip partition pop remove replace reverse rfind rjust rpartition rsplit rstrip
    setdefault split splitlines startswith strip update upper values zfill bit_length""".split())

# What the library lends, by the modules from which it is imported.
LIBRARY = {"math": {"gcd", "lcm", "isqrt", "comb", "perm", "factorial"},
           "heapq": {"heappush", "heappop", "heapify", "heapreplace", "heappushpop"}}

STATEMENTS = (ast.Assign, ast.AugAssign, ast.If, ast.While, ast.For, ast.Return, ast.Break, ast.Continue, ast.Pass,
              ast.Raise, ast.Assert, ast.Delete, ast.Try, ast.Expr, ast.FunctionDef, ast.ClassDef, ast.ImportFrom)

BARRED_NODES = (ast.AsyncFunctionDef, ast.Await, ast.Global, ast.Nonlocal, ast.Yield, ast.YieldFrom, ast.Set, ast.SetComp,
                ast.Import, ast.NamedExpr, ast.AnnAssign, ast.Match, ast.With, ast.Div, ast.MatMult)

BARRED_NAMES = set("""register mro elements open input law version_info with_traceback add_note attrgetter breakpoint
    builtins compile copyright credits delattr dir eval exec exit gc getattr globals hasattr help id importlib license
    locals methodcaller os quit setattr super type vars sys""".split())

BARRED_WORDS = re.compile(r"\b(type|typing|typing_extensions|enum|Enum|IntEnum|StrEnum|Flag|IntFlag|Generic|Protocol|ABC|"
                          r"ABCMeta|namedtuple|NamedTuple|TypedDict|TYPE_CHECKING|abstractmethod)\b|dataclass|overload|"
                          r"contextmanager|_wall|_WallAttr")


def files():
    return sorted(FOLDER.glob("*.py"))


@functools.cache
def trees():
    return {path.stem: ast.parse(path.read_text(), path.name) for path in files()}


def bound_at_module_level(tree):
    """The names that a module binds, each as often as it does."""
    names = []
    for statement in tree.body:
        if isinstance(statement, (ast.FunctionDef, ast.ClassDef)):
            names.append(statement.name)
        elif isinstance(statement, ast.ImportFrom):
            names += [alias.asname or alias.name for alias in statement.names]
        elif isinstance(statement, ast.Assign):
            names += [target.id for target in statement.targets]
    return names


def names_within(function):
    """The names that a function gives a value: its parameters, and what it assigns."""
    names = [argument.arg for argument in ast.walk(function) if isinstance(argument, ast.arg)]
    return names + [node.id for node in ast.walk(function) if isinstance(node, ast.Name) and isinstance(node.ctx, ast.Store)]


def imports_of(tree):
    return [statement for statement in tree.body if isinstance(statement, ast.ImportFrom)]


def own_imports_of(tree):
    return [statement for statement in imports_of(tree) if statement.module not in LIBRARY]


def classes():
    return [node for tree in trees().values() for node in ast.walk(tree) if isinstance(node, ast.ClassDef)]


def methods_of(owner):
    return {node.name for node in owner.body if isinstance(node, ast.FunctionDef)}


def own_methods():
    return {name for owner in classes() for name in methods_of(owner)}


def stored_attributes(tree):
    return {node.attr for node in ast.walk(tree) if isinstance(node, ast.Attribute) and isinstance(node.ctx, ast.Store)}


class Files(unittest.TestCase):
    def test_the_folder_contains_nothing_else(self):
        names = [path.name for path in FOLDER.iterdir() if path.name != "__pycache__"]
        self.assertTrue(all(re.fullmatch(r"[a-z0-9_]+\.py", name) for name in names), names)
        self.assertIn("__init__.py", names)

    def test_signs_and_sizes(self):
        for path in files():
            text = path.read_text()
            self.assertIsNone(re.search(r"[^\n -~]", text), path)
            lines = text.split("\n")
            self.assertLessEqual(len(lines), 399, path)
            self.assertLessEqual(max(len(line) for line in lines), 120, path)
            self.assertIsNone(BARRED_WORDS.search(text), path)

    def test_functions_are_short(self):
        for name, tree in trees().items():
            for node in ast.walk(tree):
                if isinstance(node, ast.FunctionDef):
                    self.assertLessEqual(node.end_lineno - node.lineno + 1, 40, (name, node.name))

    def test_all_is_told_in_a_docstring(self):
        for name, tree in trees().items():
            self.assertTrue(ast.get_docstring(tree), name)
            for node in ast.walk(tree):
                if isinstance(node, (ast.FunctionDef, ast.ClassDef)) and node.name != "__init__":
                    self.assertTrue(ast.get_docstring(node), (name, node.name))


class Modules(unittest.TestCase):
    def test_imports(self):
        for name, tree in trees().items():
            for statement in imports_of(tree):
                self.assertEqual(statement.level, 0)
                if statement.module in LIBRARY:
                    self.assertLessEqual({alias.name for alias in statement.names}, LIBRARY[statement.module])
                    self.assertTrue(all(alias.asname is None for alias in statement.names))
            for statement in own_imports_of(tree):
                folder, file = statement.module.split(".")
                self.assertEqual(folder, "wakedenough")
                defined = [node.name for node in trees()[file].body if isinstance(node, (ast.FunctionDef, ast.ClassDef))]
                defined += [target.id for node in trees()[file].body if isinstance(node, ast.Assign) for target in node.targets]
                for alias in statement.names:
                    self.assertIsNone(alias.asname)
                    self.assertIn(alias.name, defined, (name, alias.name))

    def test_no_two_files_import_from_each_other(self):
        needed = {name: {statement.module.split(".")[1] for statement in own_imports_of(tree)} for name, tree in trees().items()}
        while needed:
            free = [name for name, files_needed in needed.items() if not files_needed & set(needed)]
            self.assertTrue(free, needed)
            needed = {name: rest for name, rest in needed.items() if name not in free}

    def test_imports_are_used(self):
        for name, tree in trees().items():
            used = {node.id for node in ast.walk(tree) if isinstance(node, ast.Name)}
            for statement in imports_of(tree):
                for alias in statement.names:
                    self.assertIn(alias.name, used, name)

    def test_what_the_library_lends_is_only_called(self):
        for name, tree in trees().items():
            lent = {alias.name for statement in imports_of(tree) if statement.module in LIBRARY for alias in statement.names}
            called = [node.func for node in ast.walk(tree) if isinstance(node, ast.Call) and not node.keywords]
            for node in ast.walk(tree):
                if isinstance(node, ast.Name) and node.id in lent:
                    self.assertIn(node, called, name)

    def test_each_name_is_bound_once(self):
        for name, tree in trees().items():
            names = bound_at_module_level(tree)
            self.assertEqual(len(names), len(set(names)), name)

    def test_what_stands_at_module_level(self):
        for name, tree in trees().items():
            for k, statement in enumerate(tree.body):
                if isinstance(statement, ast.Expr):
                    self.assertEqual(k, 0, name)
                elif isinstance(statement, ast.Assign):
                    plain = (ast.Constant, ast.Dict, ast.Tuple, ast.Name, ast.Load, ast.UnaryOp, ast.USub)
                    self.assertTrue(all(isinstance(node, plain) for node in ast.walk(statement.value)), name)
                    self.assertEqual(len(statement.targets), 1)
                else:
                    self.assertIsInstance(statement, (ast.FunctionDef, ast.ClassDef, ast.ImportFrom))


class Code(unittest.TestCase):
    def test_statements(self):
        for name, tree in trees().items():
            for node in ast.walk(tree):
                self.assertNotIsInstance(node, BARRED_NODES, name)
                if isinstance(node, ast.stmt):
                    self.assertIsInstance(node, STATEMENTS, name)
                if isinstance(node, (ast.FunctionDef, ast.ClassDef)):
                    self.assertEqual(node.decorator_list, [])
                if isinstance(node, ast.Constant):
                    self.assertNotIsInstance(node.value, (float, complex, bytes))
                if isinstance(node, ast.Constant) and isinstance(node.value, str):
                    self.assertNotIn(chr(37), node.value)
                if isinstance(node, ast.ExceptHandler):
                    caught = node.type.elts if isinstance(node.type, ast.Tuple) else [node.type]
                    self.assertTrue(all(isinstance(error, ast.Name) and error.id not in vars(builtins) for error in caught), name)
                if isinstance(node, ast.Compare) and any(isinstance(sign, (ast.Is, ast.IsNot)) for sign in node.ops):
                    self.assertIsInstance(node.comparators[0], ast.Constant)

    def test_builtins(self):
        for name, tree in trees().items():
            for node in ast.walk(tree):
                if isinstance(node, ast.Name) and node.id in vars(builtins):
                    self.assertIn(node.id, BUILTINS, name)

    def test_methods(self):
        own = own_methods()
        for name, tree in trees().items():
            for node in ast.walk(tree):
                if isinstance(node, ast.Call) and isinstance(node.func, ast.Attribute):
                    self.assertIn(node.func.attr, METHODS | own, name)

    def test_stars_stand_behind_names(self):
        for name, tree in trees().items():
            for call in [node for node in ast.walk(tree) if isinstance(node, ast.Call)]:
                self.assertTrue(all(keyword.arg is not None for keyword in call.keywords), name)
                starred = [argument for argument in call.args if isinstance(argument, ast.Starred)]
                for argument in call.args if starred else []:
                    plain = argument.value if isinstance(argument, ast.Starred) else argument
                    self.assertIsInstance(plain, (ast.Name, ast.Constant), name)

    def test_no_kept_range_is_read_in_a_lambda(self):
        kept = ("range", "zip", "enumerate", "reversed", "map", "iter")
        for name, tree in trees().items():
            for node in ast.walk(tree):
                if isinstance(node, ast.Assign) and isinstance(node.value, ast.Call) and isinstance(node.value.func, ast.Name):
                    self.assertNotIn(node.value.func.id, kept, name)

    def test_lambdas_of_one_line_are_unlike(self):
        for name, tree in trees().items():
            lines = [node.lineno for node in ast.walk(tree) if isinstance(node, ast.Lambda)]
            self.assertEqual(len(lines), len(set(lines)), name)

    def test_caught_errors_have_names_of_their_own(self):
        for name, tree in trees().items():
            for function in [node for node in ast.walk(tree) if isinstance(node, ast.FunctionDef)]:
                caught = [node.name for node in ast.walk(function) if isinstance(node, ast.ExceptHandler) and node.name]
                self.assertEqual(len(caught), len(set(caught)), name)
                self.assertFalse(set(caught) & set(names_within(function)), name)

    def test_no_name_is_a_method_and_an_attribute(self):
        attributes = {attribute for tree in trees().values() for attribute in stored_attributes(tree)}
        for owner in classes():
            self.assertFalse(stored_attributes(owner) & methods_of(owner), owner.name)
        # The interface has a tick that an error keeps, and one that fleets and halls tell.
        self.assertEqual(attributes & (own_methods() - METHODS), {"tick"})
        for name, tree in trees().items():
            called = [node.func for node in ast.walk(tree) if isinstance(node, ast.Call)]
            for node in ast.walk(tree):
                if isinstance(node, ast.Attribute) and isinstance(node.ctx, ast.Load) and node not in called:
                    self.assertIn(node.attr, attributes, name)

    def test_names(self):
        for name, tree in trees().items():
            outer = {node.name for node in tree.body if isinstance(node, ast.ClassDef)}
            outer |= {alias.name for statement in imports_of(tree) for alias in statement.names}
            for bound in bound_at_module_level(tree):
                self.assertNotIn(bound, vars(builtins), name)
            for function in [node for node in ast.walk(tree) if isinstance(node, (ast.FunctionDef, ast.Lambda))]:
                for bound in names_within(function):
                    self.assertNotIn(bound, vars(builtins), name)
                    self.assertNotIn(bound, outer, name)
                    self.assertFalse(bound.startswith("__"), name)
            for node in ast.walk(tree):
                for word in (getattr(node, "id", None), getattr(node, "attr", None), getattr(node, "arg", None)):
                    self.assertNotIn(word, BARRED_NAMES, name)
                if isinstance(node, ast.Name) and node.id == "_":
                    self.assertIsInstance(node.ctx, ast.Store, name)

    def test_sets_are_only_sorted_counted_or_asked(self):
        for name, tree in trees().items():
            fine = [call.args[0] for call in ast.walk(tree) if isinstance(call, ast.Call) and isinstance(call.func, ast.Name)
                    and call.func.id in ("sorted", "len")]
            for node in ast.walk(tree):
                if isinstance(node, ast.Call) and isinstance(node.func, ast.Name) and node.func.id == "set":
                    self.assertIn(node, fine, name)

    def test_keywords_of_builtins(self):
        allowed = {"sorted": {"key", "reverse"}, "min": {"key", "default"}, "max": {"key", "default"}, "sum": {"start"},
                   "enumerate": {"start"}, "zip": {"strict"}}
        for name, tree in trees().items():
            for node in ast.walk(tree):
                if isinstance(node, ast.Call) and isinstance(node.func, ast.Name) and node.func.id in BUILTINS:
                    told = {keyword.arg for keyword in node.keywords}
                    self.assertLessEqual(told, allowed.get(node.func.id, set()), name)


if __name__ == "__main__":
    unittest.main()
