"""The form of the code: the interface, and those rules of LANGUAGE.md that a look at the code can check."""

import ast
import builtins
import importlib
import inspect
import pathlib
import unittest

ROOT = pathlib.Path(__file__).resolve().parent.parent
PACKAGE = ROOT / "keptbywitness"
FILES = sorted(PACKAGE.glob("*.py"))

FUNCTIONS = {
    "heaps": {"led_objects": 2, "led_imports": 2, "shortest_path": 3},
    "groups": {
        "is_consistent": 1, "live": 1, "garbage": 1, "why_live": 2, "kept_by": 2, "reachable": 1, "dangling": 1,
    },
    "nodes": {"replay": 3},
    "executions": {"first_fault": 1, "perform_all": 1, "reclaims": 1},
    "witnesses": {"find_witness": 4, "check_witness": 5},
    "events": {"write_event": 1, "read_event": 2},
    "blocks": {"encode_record": 2, "decode_piece": 1},
    "log": {"format_disk": 3, "open_log": 1},
}
CLASSES = {
    "errors": (
        "KeepError", "OutOfRange", "Impossible", "NoRoot", "NotObject", "NoField", "NoEntry", "NoObject",
        "WrongMessage", "Inconsistent", "NoReport", "NotKept", "NotOpen", "LogFull", "PowerCut", "NoLetter",
        "Reclaims",
    ),
    "nodes": ("Node",),
    "network": ("Network",),
    "disks": ("Disk",),
    "log": ("Log",),
    "house": ("House",),
    "link": ("Link",),
}
# For each class the parameters of its methods, after the first one.
METHODS = {
    ("nodes", "Node"): {
        "__init__": ["nodes", "number"], "perform": ["event"], "reclaim": ["reports"], "number": [], "nodes": [],
        "roots": [], "heap": [], "exports": [], "imports": [], "sent": [], "seen": [], "returned": [], "report": [],
        "last_report": [], "history": [], "kept": [],
    },
    ("network", "Network"): {
        "__init__": ["nodes"], "perform": ["node", "event"], "round": [], "collect_jointly": ["group"], "execution": [],
        "nodes": [],
    },
    ("disks", "Disk"): {
        "__init__": ["blocks"], "size": [], "read": ["at"], "write": ["at", "block"], "flush": [], "pending_count": [],
        "cut_count": [], "cut_power": ["torn"], "schedule_cut": ["many", "torn"],
    },
    ("log", "Log"): {"node": [], "events": [], "append": ["event"], "sync": [], "free_blocks": []},
    ("house", "House"): {
        "__init__": ["disk"], "perform": ["event"], "hear": ["report"], "reclaim": ["group"], "sync": [], "node": [],
        "count": [], "free_blocks": [],
    },
    ("link", "Link"): {
        "__init__": ["nodes", "blocks"], "perform": ["node", "event"], "reclaim": ["node", "group"], "sync": ["node"],
        "letters": [], "drop": ["at"], "duplicate": ["at"], "deliver": ["at"], "nodes": [], "is_open": ["node"],
        "cut_power": ["node", "torn"], "schedule_cut": ["node", "many", "torn"], "reopen": ["node"],
    },
}
CONSTANTS = {
    "nodes": {"FIELDS_MOST": 4, "CARRIED_MOST": 4}, "executions": {"STEPS_MOST": 400},
    "disks": {"BLOCK": 32, "BLOCKS_MOST": 400}, "blocks": {"PIECE": 24, "PIECES_MOST": 40},
}

LIBRARY = {"heapq", "math", "itertools", "collections", "__future__"}
ALLOWED_BUILTINS = set(
    "len range enumerate zip min max sum abs sorted reversed int str bool bytes list tuple dict set frozenset"
    " isinstance ord repr any all divmod pow iter next super property staticmethod classmethod"
    " Exception ValueError TypeError KeyError IndexError LookupError ZeroDivisionError ArithmeticError"
    " OverflowError RuntimeError NotImplementedError AttributeError StopIteration NotImplemented".split()
)
BARRED_NAMES = set(
    "register mro elements open input law version_info with_traceback add_note attrgetter breakpoint builtins"
    " compile copyright credits delattr dir eval exec exit gc globals help id importlib license locals"
    " methodcaller os quit sys type vars typing enum".split()
)
BUILTIN_METHODS = set(
    "append clear copy count endswith extend find get index insert isalnum isalpha isdigit islower isspace isupper"
    " items join keys ljust lower lstrip partition pop remove replace reverse rfind rjust rpartition rsplit rstrip"
    " setdefault split splitlines startswith strip update upper values zfill bit_length isdecimal __init__".split()
)
STATEMENTS = (ast.ImportFrom, ast.FunctionDef, ast.ClassDef, ast.Assign)
BARRED_NODES = (
    ast.AsyncFunctionDef, ast.AsyncFor, ast.AsyncWith, ast.Await, ast.Import, ast.Global, ast.Div, ast.MatMult,
)


def trees():
    return [(path, ast.parse(path.read_text(encoding="utf-8"))) for path in FILES]


def bound_names(tree):
    """All names that a file binds anywhere, with the places where it does."""
    for node in ast.walk(tree):
        if isinstance(node, (ast.FunctionDef, ast.ClassDef)):
            yield node.name
        elif isinstance(node, ast.arg):
            yield node.arg
        elif isinstance(node, ast.Name) and not isinstance(node.ctx, ast.Load):
            yield node.id


class InterfaceTest(unittest.TestCase):
    def test_functions_are_defined_where_they_are_listed(self):
        for file, functions in FUNCTIONS.items():
            module = importlib.import_module(f"keptbywitness.{file}")
            for name, many in functions.items():
                with self.subTest(file=file, name=name):
                    function = getattr(module, name)
                    self.assertTrue(inspect.isfunction(function))
                    self.assertEqual(function.__module__, module.__name__)
                    self.assertEqual(len(inspect.signature(function).parameters), many)

    def test_classes_are_defined_where_they_are_listed(self):
        for file, classes in CLASSES.items():
            module = importlib.import_module(f"keptbywitness.{file}")
            for name in classes:
                with self.subTest(file=file, name=name):
                    self.assertTrue(inspect.isclass(getattr(module, name)))
                    self.assertEqual(getattr(module, name).__module__, module.__name__)

    def test_methods_stand_in_the_class_itself(self):
        for (file, name), methods in METHODS.items():
            made = getattr(importlib.import_module(f"keptbywitness.{file}"), name)
            for method, parameters in methods.items():
                with self.subTest(name=name, method=method):
                    self.assertTrue(inspect.isfunction(vars(made)[method]))
                    self.assertEqual(list(inspect.signature(vars(made)[method]).parameters)[1:], parameters)

    def test_constants(self):
        for file, constants in CONSTANTS.items():
            module = importlib.import_module(f"keptbywitness.{file}")
            for name, number in constants.items():
                self.assertEqual(getattr(module, name), number)


class LanguageTest(unittest.TestCase):
    def test_files(self):
        self.assertIn(PACKAGE / "__init__.py", FILES)
        others = [path.name for path in PACKAGE.iterdir() if path.name != "__pycache__" and path not in FILES]
        self.assertEqual(others, [])

    def test_sizes_and_characters(self):
        for path in FILES:
            text = path.read_text(encoding="ascii")
            self.assertTrue(all(sign == "\n" or " " <= sign <= "~" for sign in text), path.name)
            self.assertLessEqual(len(text.splitlines()), 399, path.name)
            self.assertLessEqual(max(map(len, text.splitlines())), 120, path.name)
            self.assertNotIn("_wall", text)

    def test_functions_are_short(self):
        for path, tree in trees():
            for node in ast.walk(tree):
                if isinstance(node, ast.FunctionDef):
                    self.assertLessEqual(node.end_lineno - node.lineno + 1, 40, f"{path.name} {node.name}")
                    self.assertIsNotNone(ast.get_docstring(node) or node.name == "__init__" or None, node.name)

    def test_module_level(self):
        for path, tree in trees():
            names = []
            for node in tree.body:
                if isinstance(node, ast.Expr):
                    self.assertIsInstance(node.value, ast.Constant, path.name)
                    continue
                self.assertIsInstance(node, STATEMENTS, path.name)
                if isinstance(node, ast.ImportFrom):
                    names += [item.name for item in node.names]
                elif isinstance(node, ast.Assign):
                    names += [target.id for target in node.targets]
                else:
                    names.append(node.name)
            self.assertEqual(sorted(names), sorted(set(names)), path.name)

    def test_imports_name_the_file_that_defines(self):
        defined = {
            f"keptbywitness.{path.stem}": {node.name for node in tree.body if hasattr(node, "name")}
            | {target.id for node in tree.body if isinstance(node, ast.Assign) for target in node.targets}
            for path, tree in trees()
        }
        for path, tree in trees():
            for node in ast.walk(tree):
                if isinstance(node, ast.ImportFrom) and node.module not in LIBRARY:
                    self.assertEqual(node.level, 0)
                    for item in node.names:
                        self.assertIn(item.name, defined[node.module], path.name)
                        self.assertIsNone(item.asname)

    def test_names(self):
        for path, tree in trees():
            imported = {item.name for node in tree.body if isinstance(node, ast.ImportFrom) for item in node.names}
            classes = {node.name for node in tree.body if isinstance(node, ast.ClassDef)}
            inner = [name for part in ast.walk(tree) if isinstance(part, ast.FunctionDef) for name in inner_names(part)]
            for name in inner:
                self.assertNotIn(name, imported | classes, path.name)
            for name in bound_names(tree):
                self.assertNotIn(name, BARRED_NAMES, path.name)
                self.assertFalse(name.startswith("__") and not name.endswith("__"), name)
            for name in inner + [node.name for node in tree.body if hasattr(node, "name")]:
                self.assertFalse(hasattr(builtins, name), f"{path.name} {name}")

    def test_only_the_listed_builtins_are_used(self):
        for path, tree in trees():
            for node in ast.walk(tree):
                if isinstance(node, ast.Name) and hasattr(builtins, node.id):
                    self.assertIn(node.id, ALLOWED_BUILTINS, path.name)

    def test_values_and_statements(self):
        for path, tree in trees():
            for node in ast.walk(tree):
                self.assertNotIsInstance(node, BARRED_NODES, path.name)
                if isinstance(node, ast.Constant):
                    self.assertNotIsInstance(node.value, (float, complex), path.name)
                    if isinstance(node.value, str):
                        self.assertNotIn("%", node.value, path.name)

    def test_methods_are_those_of_builtin_values_or_own_ones(self):
        own = {
            part.name for _, tree in trees() for node in tree.body if isinstance(node, ast.ClassDef)
            for part in node.body if isinstance(part, ast.FunctionDef)
        }
        for path, tree in trees():
            for node in ast.walk(tree):
                if isinstance(node, ast.Call) and isinstance(node.func, ast.Attribute):
                    self.assertIn(node.func.attr, own | BUILTIN_METHODS, f"{path.name} {node.lineno}")

    def test_names_are_methods_or_attributes(self):
        for path, tree in trees():
            for made in (node for node in tree.body if isinstance(node, ast.ClassDef)):
                methods = [part.name for part in made.body if isinstance(part, ast.FunctionDef)]
                self.assertEqual(len(methods), len(set(methods)), made.name)
                for node in ast.walk(made):
                    if isinstance(node, ast.Attribute) and isinstance(node.ctx, ast.Store):
                        self.assertNotIn(node.attr, methods, path.name)

    def test_sets_are_not_iterated(self):
        for path, tree in trees():
            for node in ast.walk(tree):
                if isinstance(node, (ast.For, ast.comprehension)):
                    self.assertNotIsInstance(node.iter, (ast.Set, ast.SetComp), path.name)
                    if isinstance(node.iter, ast.Call) and isinstance(node.iter.func, ast.Name):
                        self.assertNotIn(node.iter.func.id, ("set", "frozenset"), path.name)


def inner_names(function):
    """The parameters and local variables of a function."""
    for node in ast.walk(function):
        if isinstance(node, ast.arg):
            yield node.arg
        elif isinstance(node, ast.Name) and isinstance(node.ctx, ast.Store):
            yield node.id


if __name__ == "__main__":
    unittest.main()
