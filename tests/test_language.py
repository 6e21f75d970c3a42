"""Does the package keep to the small part of Python that it may use? As far as a look at its text tells."""

import ast
import builtins
import pathlib
import re
import unittest

PACKAGE = pathlib.Path(__file__).resolve().parent.parent / "screenviewer"
FILES = sorted(PACKAGE.glob("*.py"))

STATEMENTS = (
    ast.Assign, ast.AugAssign, ast.If, ast.While, ast.For, ast.Return, ast.Break, ast.Continue, ast.Pass, ast.Raise,
    ast.Try, ast.ExceptHandler, ast.Expr, ast.FunctionDef, ast.ClassDef, ast.ImportFrom,
)
EXPRESSIONS = (
    ast.Constant, ast.List, ast.Tuple, ast.Dict, ast.BinOp, ast.UnaryOp, ast.BoolOp, ast.Compare, ast.IfExp, ast.Call,
    ast.Attribute, ast.Subscript, ast.Slice, ast.ListComp, ast.Name, ast.JoinedStr, ast.FormattedValue, ast.Lambda,
)
OTHERS = (
    ast.Module, ast.arguments, ast.arg, ast.comprehension, ast.alias, ast.keyword, ast.expr_context, ast.operator,
    ast.unaryop, ast.boolop, ast.cmpop,
)
OWN_NAMES = set(
    "len range enumerate zip min max sum abs sorted reversed int str bool list tuple dict set frozenset isinstance "
    "ord repr any all divmod Exception ValueError TypeError KeyError IndexError LookupError ZeroDivisionError "
    "ArithmeticError OverflowError RuntimeError NotImplementedError AttributeError StopIteration".split()
)
OWN_METHODS = set(
    "append clear copy count endswith extend find get index insert isalnum isalpha isdigit islower isspace isupper "
    "items join keys ljust lower lstrip partition pop remove replace reverse rfind rjust rpartition rsplit rstrip "
    "setdefault split splitlines startswith strip update upper values zfill bit_length".split()
)
WORDS_OUT = (
    "type typing typing_extensions enum Enum IntEnum StrEnum Flag IntFlag Generic Protocol ABC ABCMeta namedtuple "
    "NamedTuple TypedDict TYPE_CHECKING abstractmethod".split()
)
NAMES_OUT = set(
    "register mro elements open input version_info with_traceback add_note attrgetter breakpoint builtins compile "
    "copyright credits delattr dir eval exec exit gc getattr globals hasattr help id importlib license locals "
    "methodcaller os quit setattr super sys vars __name__ print chr format format_map".split()
)
PLAIN_NAME = re.compile("[A-Za-z][A-Za-z0-9_]*")


def tree_of(path):
    return ast.parse(path.read_text(encoding="utf-8"))


def nodes(kind):
    return [(path.name, node) for path in FILES for node in ast.walk(tree_of(path)) if isinstance(node, kind)]


def bound_names():
    found = []
    for name, node in nodes((ast.FunctionDef, ast.ClassDef, ast.arg, ast.Name)):
        if isinstance(node, ast.Name):
            if isinstance(node.ctx, ast.Store):
                found.append((name, node.id))
        else:
            found.append((name, node.arg if isinstance(node, ast.arg) else node.name))
    return found


class TextTest(unittest.TestCase):
    def test_there_are_files(self):
        self.assertIn("viewer.py", [path.name for path in FILES])
        self.assertIn("__init__.py", [path.name for path in FILES])

    def test_nothing_else_lies_there(self):
        others = [path for path in PACKAGE.iterdir() if path not in FILES and path.name != "__pycache__"]
        self.assertEqual(others, [])

    def test_sizes_and_signs(self):
        for path in FILES:
            text = path.read_text(encoding="utf-8")
            lines = text.split("\n")
            self.assertLessEqual(len(lines), 400, path.name)
            self.assertLessEqual(max(len(line) for line in lines), 120, path.name)
            self.assertEqual([sign for sign in text if not (" " <= sign <= "~" or sign == "\n")], [], path.name)

    def test_functions_are_short(self):
        for name, node in nodes(ast.FunctionDef):
            self.assertLessEqual(node.end_lineno - node.lineno + 1, 40, (name, node.name))

    def test_words_that_stand_nowhere(self):
        for path in FILES:
            words = re.findall("[A-Za-z0-9_]+", path.read_text(encoding="utf-8"))
            self.assertEqual([word for word in words if word in WORDS_OUT], [], path.name)
            for part in ("dataclass", "overload", "contextmanager"):
                self.assertNotIn(part, path.read_text(encoding="utf-8"))


class TreeTest(unittest.TestCase):
    def test_kinds_of_nodes(self):
        for name, node in nodes(ast.AST):
            self.assertIsInstance(node, STATEMENTS + EXPRESSIONS + OTHERS, (name, getattr(node, "lineno", 0)))

    def test_imports_from_the_package_alone_and_round_no_ring(self):
        drawn = {path.stem: set() for path in FILES}
        for name, node in nodes(ast.ImportFrom):
            package, _, module = node.module.partition(".")
            self.assertEqual((package, node.level), ("screenviewer", 0), name)
            defined = [top.name for top in tree_of(PACKAGE / (module + ".py")).body if hasattr(top, "name")]
            defined += [top.targets[0].id for top in tree_of(PACKAGE / (module + ".py")).body if hasattr(top, "targets")]
            for alias in node.names:
                self.assertIn(alias.name, defined, name)
                self.assertIsNone(alias.asname)
            drawn[name[:-3]].add(module)
        while drawn:
            free = [name for name in drawn if not drawn[name]]
            self.assertTrue(free, drawn)
            drawn = {name: rest - set(free) for name, rest in drawn.items() if name not in free}

    def test_tops_hold_plain_values_once(self):
        for path in FILES:
            bound = []
            for node in tree_of(path).body:
                if isinstance(node, ast.Assign):
                    bound.append(node.targets[0].id)
                    self.assert_plain(node.value, path.name)
                elif isinstance(node, (ast.FunctionDef, ast.ClassDef)):
                    bound.append(node.name)
                elif isinstance(node, ast.Expr):
                    self.assertIsInstance(node.value, ast.Constant)
                else:
                    self.assertIsInstance(node, ast.ImportFrom)
            self.assertEqual(len(bound), len(set(bound)), path.name)

    def assert_plain(self, value, name):
        functions = [top.name for top in tree_of(PACKAGE / name).body if isinstance(top, ast.FunctionDef)]
        for node in ast.walk(value):
            if isinstance(node, ast.Name):
                self.assertIn(node.id, functions, name)
            else:
                kinds = (ast.Constant, ast.Tuple, ast.List, ast.Dict, ast.UnaryOp, ast.USub, ast.Load)
                self.assertIsInstance(node, kinds, name)

    def test_functions_are_plain(self):
        for name, node in nodes(ast.FunctionDef):
            given = node.args
            self.assertEqual((given.vararg, given.kwarg, given.kwonlyargs, given.posonlyargs), (None, None, [], []))
            self.assertEqual((node.decorator_list, node.returns), ([], None))

    def test_classes_are_plain(self):
        methods, values = set(), set()
        for name, node in nodes(ast.ClassDef):
            self.assertEqual((node.decorator_list, node.keywords), ([], []))
            for part in node.body:
                self.assertIsInstance(part, ast.FunctionDef, name)
                methods.add(part.name)
        for name, node in nodes(ast.Attribute):
            if isinstance(node.ctx, ast.Store):
                self.assertIsInstance(node.value, ast.Name, (name, node.lineno))
                values.add(node.attr)
        self.assertEqual(methods & values, set())
        taken = {word for kind in (str, int, list, dict, set, bytes, tuple) for word in dir(kind)}
        self.assertEqual((values | methods - {"__init__"}) & taken, set())

    def test_statements(self):
        for name, node in nodes(ast.Assign):
            self.assertEqual(len(node.targets), 1, name)
            self.assertNotIsInstance(node.targets[0], ast.Tuple, name)
        for name, node in nodes((ast.For, ast.While)):
            self.assertEqual(node.orelse, [], name)
        for name, node in nodes(ast.ListComp):
            self.assertEqual(len(node.generators), 1, name)
            self.assertLessEqual(len(node.generators[0].ifs), 1, name)

    def test_values(self):
        for name, node in nodes(ast.Constant):
            self.assertIn(type(node.value), (int, str, bool, type(None)), name)
        for name, node in nodes(ast.BinOp):
            self.assertNotIsInstance(node.op, (ast.Div, ast.Pow, ast.MatMult), name)
        for name, node in nodes(ast.Compare):
            for operator, right in zip(node.ops, node.comparators):
                if isinstance(operator, (ast.Is, ast.IsNot)):
                    self.assertIsInstance(right, ast.Constant, name)
        for path in FILES:
            for node in ast.walk(tree_of(path)):
                if isinstance(node, ast.Constant) and isinstance(node.value, str):
                    self.assertNotIn("%", node.value, path.name)

    def test_names(self):
        for name, word in bound_names():
            if word != "__init__":
                self.assertTrue(PLAIN_NAME.fullmatch(word), (name, word))
                self.assertFalse(hasattr(builtins, word), (name, word))
        for name, node in nodes(ast.Name):
            self.assertNotIn(node.id, NAMES_OUT, name)
            if hasattr(builtins, node.id):
                self.assertIn(node.id, OWN_NAMES, (name, node.lineno))
        for name, node in nodes(ast.Attribute):
            self.assertNotIn(node.attr, NAMES_OUT, name)

    def test_locals_are_not_called_like_imports_or_classes(self):
        for path in FILES:
            tree = tree_of(path)
            taken = {alias.name for node in tree.body if isinstance(node, ast.ImportFrom) for alias in node.names}
            taken |= {node.name for node in tree.body if isinstance(node, ast.ClassDef)}
            for node in ast.walk(tree):
                if isinstance(node, ast.arg):
                    self.assertNotIn(node.arg, taken, path.name)
                if isinstance(node, ast.Name) and isinstance(node.ctx, ast.Store):
                    self.assertNotIn(node.id, taken, path.name)

    def test_walked_at_once(self):
        for path in FILES:
            tree = tree_of(path)
            walked = []
            for node in ast.walk(tree):
                if isinstance(node, (ast.For, ast.comprehension)):
                    walked.append(node.iter)
                if isinstance(node, ast.Call) and isinstance(node.func, ast.Name) and node.func.id in ("list", "tuple"):
                    walked += node.args[:1]
            for node in ast.walk(tree):
                if isinstance(node, ast.Call) and isinstance(node.func, ast.Name):
                    if node.func.id in ("range", "zip", "enumerate", "reversed"):
                        self.assertIn(node, walked, (path.name, node.lineno))

    def test_methods_called(self):
        own = {node.name for name, node in nodes(ast.FunctionDef)}
        for name, node in nodes(ast.Call):
            if isinstance(node.func, ast.Attribute):
                self.assertIn(node.func.attr, OWN_METHODS | own, (name, node.lineno))
            self.assertEqual(node.keywords, [], name)


if __name__ == "__main__":
    unittest.main()
