"""[1] and the interface: the package's layout, what it draws on, and the bounds of its form."""

import ast
import builtins
import importlib
import inspect
import pathlib
import re
import unittest

PACKAGE = pathlib.Path(__file__).resolve().parent.parent / "plainpath"

BUILTINS_USED = (
    "len range enumerate zip min max sum abs sorted reversed int str bool list tuple dict set frozenset isinstance "
    "ord repr any all divmod Exception ValueError TypeError KeyError IndexError LookupError ZeroDivisionError "
    "ArithmeticError OverflowError RuntimeError NotImplementedError AttributeError StopIteration"
).split()
METHODS_USED = (
    "append clear copy count endswith extend find get index insert isalnum isalpha isdigit islower isspace isupper "
    "items join keys ljust lower lstrip partition pop remove replace reverse rfind rjust rpartition rsplit rstrip "
    "setdefault split splitlines startswith strip update upper values zfill bit_length"
).split()
WORDS_LEFT_OUT = (
    "type typing typing_extensions enum Enum IntEnum StrEnum Flag IntFlag Generic Protocol ABC ABCMeta namedtuple "
    "NamedTuple TypedDict TYPE_CHECKING abstractmethod"
).split()
STATEMENTS_LEFT_OUT = (
    ast.With, ast.Match, ast.Delete, ast.Global, ast.Nonlocal, ast.Assert, ast.Yield, ast.YieldFrom, ast.AsyncFor,
    ast.AsyncFunctionDef, ast.AsyncWith, ast.Await, ast.NamedExpr, ast.Starred, ast.SetComp, ast.DictComp,
    ast.GeneratorExp, ast.Import, ast.Div,
)
INTERFACE = {
    "plainpath.errors": {"PathError": None, "BadRoute": None, "BadRule": None, "NoNeighbour": None, "NoLine": None},
    "plainpath.routes": {
        "need_route": ["route"],
        "need_rule": ["rule"],
        "fits": ["rule", "route"],
        "judged": ["rules", "route"],
    },
    "plainpath.routers": {"Router": ["number"]},
    "plainpath.webs": {"Web": ["numbers"]},
}
METHODS = {
    ("plainpath.routers", "Router"): {
        "add": ["other"],
        "up": ["other"],
        "down": ["other"],
        "rules": ["other", "side", "some"],
        "hear": ["other", "route"],
        "gone": ["other", "prefix"],
        "own": ["prefix", "is_own"],
        "best": ["prefix"],
        "find": ["address"],
        "chosen": [],
        "due": ["other"],
        "tell": ["other"],
    },
    ("plainpath.webs", "Web"): {
        "join": ["one", "other"],
        "cut": ["one", "other"],
        "own": ["number", "prefix", "is_own"],
        "settle": [],
        "send": ["one", "other"],
        "arrive": ["one", "other"],
        "is_resting": [],
        "router": ["number"],
    },
}


def sources():
    return [(path.name, path.read_text(encoding="utf-8")) for path in sorted(PACKAGE.glob("*.py"))]


def nodes():
    return [(name, node) for name, text in sources() for node in ast.walk(ast.parse(text))]


def own_values():
    return [
        node.attr for name, node in nodes()
        if isinstance(node, ast.Attribute) and isinstance(node.ctx, ast.Store)
    ]


def own_methods():
    defs = (ast.FunctionDef,)
    return [
        part.name for name, node in nodes() if isinstance(node, ast.ClassDef)
        for part in node.body if isinstance(part, defs)
    ]


class InterfaceTest(unittest.TestCase):
    def test_names_and_arguments(self):
        for module, names in INTERFACE.items():
            loaded = importlib.import_module(module)
            for name, arguments in names.items():
                with self.subTest(module=module, name=name):
                    value = getattr(loaded, name)
                    if arguments is not None:
                        self.assertEqual(list(inspect.signature(value).parameters), arguments)

    def test_methods_and_arguments(self):
        for (module, name), methods in METHODS.items():
            loaded = getattr(importlib.import_module(module), name)
            for method, arguments in methods.items():
                with self.subTest(name=name, method=method):
                    parameters = list(inspect.signature(getattr(loaded, method)).parameters)
                    self.assertEqual(parameters, ["self"] + arguments)

    def test_init_binds_nothing(self):
        tree = ast.parse((PACKAGE / "__init__.py").read_text(encoding="utf-8"))
        self.assertEqual(tree.body, [])

    def test_only_plain_python_files_lie_in_the_package(self):
        for path in PACKAGE.iterdir():
            if path.name != "__pycache__":
                with self.subTest(path=path.name):
                    self.assertRegex(path.name, r"^[a-z0-9_]+\.py$")
                    self.assertNotRegex(path.name, r"^test")


class NothingFromOutsideTest(unittest.TestCase):
    def test_imports_are_of_the_package_alone(self):
        for name, node in nodes():
            if isinstance(node, ast.ImportFrom):
                with self.subTest(file=name, line=node.lineno):
                    self.assertEqual(node.level, 0)
                    self.assertTrue(node.module.startswith("plainpath."))
                    self.assertNotIn("*", [alias.name for alias in node.names])

    def test_only_the_told_names_of_python_are_used(self):
        for name, node in nodes():
            if isinstance(node, ast.Name) and hasattr(builtins, node.id):
                with self.subTest(file=name, line=node.lineno):
                    self.assertIn(node.id, BUILTINS_USED)
                    self.assertIsInstance(node.ctx, ast.Load)

    def test_only_the_told_methods_of_python_are_called(self):
        allowed = METHODS_USED + own_methods()
        for name, node in nodes():
            if isinstance(node, ast.Call) and isinstance(node.func, ast.Attribute):
                with self.subTest(file=name, line=node.lineno):
                    self.assertIn(node.func.attr, allowed)


class FormTest(unittest.TestCase):
    def test_no_statement_that_is_left_out(self):
        for name, node in nodes():
            with self.subTest(file=name, line=getattr(node, "lineno", 0)):
                self.assertNotIsInstance(node, STATEMENTS_LEFT_OUT)
                self.assertFalse(isinstance(node, (ast.For, ast.While)) and node.orelse)
                self.assertFalse(isinstance(node, ast.Try) and node.finalbody)

    def test_sizes_and_signs(self):
        for name, text in sources():
            lines = text.split("\n")
            self.assertLessEqual(len(lines), 400, name)
            for number, line in enumerate(lines, start=1):
                with self.subTest(file=name, line=number):
                    self.assertLessEqual(len(line), 120)
                    self.assertRegex(line, r"\A[ -~]*\Z")

    def test_functions_are_small_and_plain(self):
        for name, node in nodes():
            if isinstance(node, ast.FunctionDef):
                with self.subTest(file=name, function=node.name):
                    self.assertLessEqual(node.end_lineno - node.lineno + 1, 40)
                    self.assertEqual(node.decorator_list, [])
                    self.assertIsNone(node.args.vararg)
                    self.assertIsNone(node.args.kwarg)
                    self.assertEqual(node.args.kwonlyargs, [])
                    for argument in node.args.args:
                        self.assertFalse(hasattr(builtins, argument.arg))

    def test_no_name_is_a_method_and_a_value(self):
        self.assertEqual(set(own_methods()) & set(own_values()), set())

    def test_names_begin_with_no_underscore(self):
        for name, node in nodes():
            for word in ("id", "attr", "arg", "name"):
                value = getattr(node, word, None)
                if isinstance(value, str) and value != "__init__":
                    with self.subTest(file=name, value=value):
                        self.assertFalse(value.startswith("_"))

    def test_is_stands_beside_none_true_and_false_alone(self):
        for name, node in nodes():
            if isinstance(node, ast.Compare) and isinstance(node.ops[0], (ast.Is, ast.IsNot)):
                with self.subTest(file=name, line=node.lineno):
                    self.assertIsInstance(node.comparators[0], ast.Constant)

    def test_words_that_stand_nowhere(self):
        pattern = re.compile(r"\b(" + "|".join(WORDS_LEFT_OUT) + r")\b|dataclass|overload|contextmanager")
        for name, text in sources():
            self.assertIsNone(pattern.search(text), name)


if __name__ == "__main__":
    unittest.main()
