"""The package's files against the rules of the language that can be read off their syntax."""

import ast
import builtins
import pathlib
import re
import unittest

PACKAGE = pathlib.Path(__file__).resolve().parent.parent / "moleculeparts"

STATEMENTS = (
    ast.Assign, ast.AugAssign, ast.If, ast.While, ast.For, ast.Return, ast.Break, ast.Continue, ast.Pass, ast.Raise,
    ast.Try, ast.Expr, ast.FunctionDef, ast.ClassDef, ast.ImportFrom,
)
EXPRESSIONS = (
    ast.Constant, ast.List, ast.Tuple, ast.Dict, ast.BinOp, ast.UnaryOp, ast.BoolOp, ast.Compare, ast.IfExp, ast.Call,
    ast.Attribute, ast.Subscript, ast.Slice, ast.ListComp, ast.Name, ast.Lambda, ast.JoinedStr, ast.FormattedValue,
)
OWN_NAMES = set(
    "len range enumerate zip min max sum abs sorted reversed int str bool list tuple dict set frozenset isinstance ord "
    "repr any all divmod Exception ValueError TypeError KeyError IndexError LookupError ZeroDivisionError "
    "ArithmeticError OverflowError RuntimeError NotImplementedError AttributeError StopIteration".split()
)
OWN_METHODS = set(
    "append clear copy count endswith extend find get index insert isalnum isalpha isdigit islower isspace isupper "
    "items join keys ljust lower lstrip partition pop remove replace reverse rfind rjust rpartition rsplit rstrip "
    "setdefault split splitlines startswith strip update upper values zfill bit_length".split()
)
UNUSED_NAMES = set(
    "register mro elements open input version_info with_traceback add_note attrgetter breakpoint builtins compile "
    "copyright credits delattr dir eval exec exit gc getattr globals hasattr help id importlib license locals "
    "methodcaller os quit setattr super type vars sys __name__ format format_map".split()
)
UNUSED_WORDS = re.compile(
    r"\b(type|typing|typing_extensions|enum|Enum|IntEnum|StrEnum|Flag|IntFlag|Generic|Protocol|ABC|ABCMeta|namedtuple"
    r"|NamedTuple|TypedDict|TYPE_CHECKING|abstractmethod)\b|dataclass|overload|contextmanager"
)
KEYWORDS = {
    "sorted": ("key", "reverse"), "min": ("key", "default"), "max": ("key", "default"), "sum": ("start",),
    "enumerate": ("start",), "zip": ("strict",),
}
WALKED = ("zip", "enumerate", "reversed", "range")
WALKERS = ("list", "tuple", "dict", "sorted", "sum", "any", "all", "enumerate", "zip", "min", "max")


class LanguageTest(unittest.TestCase):
    def setUp(self):
        self.paths = sorted(x for x in PACKAGE.iterdir() if x.name != "__pycache__")
        self.trees = [(x.name, ast.parse(x.read_text(encoding="ascii"))) for x in self.paths]
        self.package_names = set()
        self.methods = set()
        for name, tree in self.trees:
            for node in ast.walk(tree):
                if isinstance(node, (ast.FunctionDef, ast.ClassDef)):
                    self.package_names.add(node.name)
                if isinstance(node, ast.ClassDef):
                    self.methods.update(x.name for x in node.body)

    def nodes(self, kinds):
        for name, tree in self.trees:
            for node in ast.walk(tree):
                if isinstance(node, kinds):
                    yield (f"{name}:{getattr(node, 'lineno', 0)}", node)

    def test_files(self):
        for path in self.paths:
            self.assertRegex(path.name, r"^[a-z0-9_]+\.py$")
            self.assertNotIn(path.stem, dir(builtins))
            text = path.read_text(encoding="ascii")
            self.assertNotIn("\t", text)
            self.assertNotIn("\r", text)
            self.assertLessEqual(len(text.splitlines()), 400, path.name)
            self.assertLessEqual(max(len(row) for row in text.splitlines()), 120, path.name)
            self.assertIsNone(UNUSED_WORDS.search(text), path.name)

    def test_functions(self):
        for where, node in self.nodes(ast.FunctionDef):
            self.assertLessEqual(node.end_lineno - node.lineno + 1, 40, where)
            self.assertEqual(node.decorator_list, [], where)
            given = node.args
            self.assertFalse(given.vararg or given.kwarg or given.kwonlyargs or given.posonlyargs, where)
            self.assertFalse(any(x.annotation for x in given.args) or node.returns, where)
            if node.name.startswith("_"):
                self.assertEqual(node.name, "__init__", where)

    def test_syntax(self):
        for where, node in self.nodes(ast.stmt):
            self.assertIsInstance(node, STATEMENTS, where)
        for where, node in self.nodes(ast.expr):
            self.assertIsInstance(node, EXPRESSIONS, where)
        for where, node in self.nodes(ast.Assign):
            self.assertEqual(len(node.targets), 1, where)
            self.assertIsInstance(node.targets[0], (ast.Name, ast.Attribute, ast.Subscript), where)
        for where, node in self.nodes((ast.For, ast.While)):
            self.assertEqual(node.orelse, [], where)
        for where, node in self.nodes(ast.ListComp):
            self.assertEqual(len(node.generators), 1, where)
            self.assertLessEqual(len(node.generators[0].ifs), 1, where)
        for where, node in self.nodes((ast.Div, ast.Pow, ast.MatMult)):
            self.fail(where)
        for where, node in self.nodes(ast.Constant):
            self.assertIn(type(node.value), (int, str, bool, type(None)), where)
        for where, node in self.nodes(ast.Call):
            word = node.func.id if isinstance(node.func, ast.Name) else node.func.attr
            for keyword in node.keywords:
                self.assertIn(keyword.arg, KEYWORDS.get(word, ()), where)

    def test_bare_expressions_are_calls(self):
        for name, tree in self.trees:
            self.assertIsInstance(tree.body[0].value.value, str, name)
            for node in ast.walk(tree):
                if isinstance(node, ast.Expr) and node is not tree.body[0]:
                    self.assertIsInstance(node.value, ast.Call, f"{name}:{node.lineno}")

    def test_names(self):
        known = set(dir(builtins))
        for where, node in self.nodes(ast.Name):
            self.assertNotIn(node.id, UNUSED_NAMES, where)
            self.assertFalse(node.id.startswith("_"), where)
            if node.id in known:
                self.assertIn(node.id, OWN_NAMES, where)
                self.assertIsInstance(node.ctx, ast.Load, where)
        for where, node in self.nodes(ast.arg):
            self.assertNotIn(node.arg, known | UNUSED_NAMES, where)
        for where, node in self.nodes(ast.Attribute):
            self.assertNotIn(node.attr, UNUSED_NAMES, where)

    def test_methods(self):
        for where, node in self.nodes(ast.Call):
            if isinstance(node.func, ast.Attribute):
                self.assertIn(node.func.attr, OWN_METHODS | self.methods, where)
        kept = {node.attr for where, node in self.nodes(ast.Attribute) if isinstance(node.ctx, ast.Store)}
        self.assertEqual(kept & self.methods, set())
        values_of_pythons = set()
        for value in ("", 0, [], {}, (), set(), b""):
            values_of_pythons.update(dir(value))
        self.assertEqual((kept | self.methods) & values_of_pythons - {"__init__"}, set())

    def test_walked_at_once(self):
        for name, tree in self.trees:
            allowed = set()
            for node in ast.walk(tree):
                if isinstance(node, (ast.For, ast.comprehension)):
                    allowed.add(node.iter)
                if isinstance(node, ast.Call) and isinstance(node.func, ast.Name) and node.func.id in WALKERS:
                    allowed.update(node.args[:1])
            for node in ast.walk(tree):
                if isinstance(node, ast.Call):
                    word = node.func.id if isinstance(node.func, ast.Name) else node.func.attr
                    if word in WALKED + ("items", "keys", "values"):
                        self.assertIn(node, allowed, f"{name}:{node.lineno}")

    def test_imports(self):
        tops = {}
        for name, tree in self.trees:
            tops[name[:-3]] = [x for node in tree.body for x in bound_names(node)]
            self.assertEqual(len(tops[name[:-3]]), len(set(tops[name[:-3]])), name)
        drawn = {}
        for name, tree in self.trees:
            for node in tree.body:
                if isinstance(node, ast.ImportFrom):
                    self.assertRegex(node.module, r"^moleculeparts\.[a-z]+$")
                    source = node.module.split(".")[1]
                    drawn.setdefault(name[:-3], set()).add(source)
                    for alias in node.names:
                        self.assertIsNone(alias.asname)
                        self.assertIn(alias.name, tops[source], name)
        self.assert_no_circle(drawn)

    def assert_no_circle(self, drawn):
        for start in drawn:
            reached = set()
            waiting = list(drawn[start])
            while waiting:
                name = waiting.pop()
                if name not in reached:
                    reached.add(name)
                    waiting.extend(drawn.get(name, ()))
            self.assertNotIn(start, reached)

    def test_locals_are_not_called_like_classes_or_imports(self):
        for name, tree in self.trees:
            taken = {x.name for x in tree.body if isinstance(x, ast.ClassDef)}
            for node in tree.body:
                if isinstance(node, ast.ImportFrom):
                    taken.update(alias.name for alias in node.names)
            for node in ast.walk(tree):
                if isinstance(node, ast.arg):
                    self.assertNotIn(node.arg, taken, f"{name}:{node.lineno}")
                if isinstance(node, ast.Name) and isinstance(node.ctx, ast.Store):
                    self.assertNotIn(node.id, taken, f"{name}:{node.lineno}")


def bound_names(node):
    if isinstance(node, (ast.FunctionDef, ast.ClassDef)):
        return [node.name]
    return [x.id for x in node.targets] if isinstance(node, ast.Assign) else []


if __name__ == "__main__":
    unittest.main()
