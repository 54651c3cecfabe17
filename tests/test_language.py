"""Those rules of the language that can be counted or looked up in the package's files."""

import ast
import builtins
import pathlib
import re
import unittest

PACKAGE = pathlib.Path(__file__).resolve().parent.parent / "beginorder"
FILES = sorted(PACKAGE.glob("*.py"))
WORDS = (
    "type typing typing_extensions enum Enum IntEnum StrEnum Flag IntFlag Generic Protocol ABC ABCMeta "
    "namedtuple NamedTuple TypedDict TYPE_CHECKING abstractmethod"
).split()
PARTS = ("dataclass", "overload", "contextmanager")
OUT = (
    ast.With, ast.Match, ast.Delete, ast.Global, ast.Nonlocal, ast.Assert, ast.Yield, ast.YieldFrom,
    ast.AsyncFunctionDef, ast.Await, ast.SetComp, ast.DictComp, ast.GeneratorExp, ast.NamedExpr,
    ast.Starred, ast.Div, ast.Set, ast.Import, ast.ImportFrom, ast.AnnAssign, ast.AugAssign, ast.Is, ast.IsNot,
)
OWN_OF_PYTHON = (
    "len range enumerate zip min max sum abs sorted reversed int str bool list tuple dict set frozenset isinstance "
    "ord repr any all divmod Exception ValueError TypeError KeyError IndexError LookupError ZeroDivisionError "
    "ArithmeticError OverflowError RuntimeError NotImplementedError AttributeError StopIteration"
).split()
METHODS = (
    "append clear copy count endswith extend find get index insert isalnum isalpha isdigit islower isspace isupper "
    "items join keys ljust lower lstrip partition pop remove replace reverse rfind rjust rpartition rsplit rstrip "
    "setdefault split splitlines startswith strip update upper values zfill bit_length"
).split()
NOT_USED = (
    "register mro elements open input version_info with_traceback add_note attrgetter breakpoint builtins compile "
    "copyright credits delattr dir eval exec exit gc getattr globals hasattr help id importlib license locals "
    "methodcaller os quit setattr super vars sys print chr"
).split()
WALKED = ("zip", "enumerate", "reversed", "range", "items", "keys", "values")
WALKERS = ("list", "tuple", "dict", "sorted", "sum", "any", "all", "enumerate", "zip", "min", "max")
OWN_OF_VALUES = {
    name for value in ("", 0, [], {}, set(), b"", ()) for name in dir(value) if not name.startswith("__")
}


def trees():
    return [(path, ast.parse(path.read_text("utf-8"))) for path in FILES]


def nodes(kind):
    return [(path, node) for path, tree in trees() for node in ast.walk(tree) if isinstance(node, kind)]


def called_name(call):
    return call.func.id if isinstance(call.func, ast.Name) else getattr(call.func, "attr", "")


def walked_on_the_spot(tree):
    """The calls that stand where L23 lets them stand."""
    found = []
    for node in ast.walk(tree):
        if isinstance(node, (ast.For, ast.comprehension)):
            found.append(node.iter)
        if isinstance(node, ast.Call) and called_name(node) in WALKERS:
            found += node.args if called_name(node) == "zip" else node.args[:1]
    return found


class LanguageTest(unittest.TestCase):
    def test_files(self):
        names = [path.name for path in PACKAGE.iterdir() if path.name != "__pycache__"]
        self.assertEqual(sorted(names), ["__init__.py", "block.py"])

    def test_sizes_and_signs(self):
        for path in FILES:
            text = path.read_bytes().decode("utf-8")
            rows = text.split("\n")
            self.assertLessEqual(len(rows), 400, path)
            self.assertLessEqual(max(map(len, rows)), 120, path)
            self.assertEqual(re.findall(r"[^ -~\n]", text), [], path)

    def test_words(self):
        for path in FILES:
            text = path.read_text("utf-8")
            self.assertEqual([w for w in WORDS if re.search(rf"\b{w}\b", text)], [], path)
            self.assertEqual([p for p in PARTS if p in text], [], path)

    def test_forms(self):
        for path, node in nodes(ast.AST):
            self.assertNotIsInstance(node, OUT, path)
            if isinstance(node, ast.FunctionDef):
                self.assertLessEqual(node.end_lineno - node.lineno + 1, 40, node.name)
                self.assertEqual(node.decorator_list, [], node.name)
            if isinstance(node, (ast.For, ast.While)):
                self.assertEqual(node.orelse, [], path)
            if isinstance(node, ast.Assign):
                self.assertEqual(len(node.targets), 1, path)
                self.assertNotIsInstance(node.targets[0], (ast.Tuple, ast.List), path)
            if isinstance(node, ast.ListComp):
                self.assertEqual(len(node.generators), 1, path)
                self.assertLessEqual(len(node.generators[0].ifs), 1, path)
            if isinstance(node, ast.Constant):
                self.assertIsInstance(node.value, (int, str, type(None)), path)

    def test_names(self):
        given = [node.name for path, node in nodes((ast.FunctionDef, ast.ClassDef))]
        given += [node.arg for path, node in nodes(ast.arg)]
        given += [node.id for path, node in nodes(ast.Name) if isinstance(node.ctx, ast.Store)]
        for name in given:
            self.assertNotIn(name, NOT_USED)
            if name != "__init__":
                self.assertRegex(name, r"^[A-Za-z][A-Za-z0-9_]*$")
                self.assertFalse(hasattr(builtins, name), name)
        for path, node in nodes(ast.Name):
            self.assertNotIn(node.id, NOT_USED)
            if hasattr(builtins, node.id):
                self.assertIn(node.id, OWN_OF_PYTHON)

    def test_methods_and_values(self):
        methods, values = set(), set()
        for path, one in nodes(ast.ClassDef):
            own = [node.name for node in one.body if isinstance(node, ast.FunctionDef)]
            self.assertEqual(len(own), len(set(own)), one.name)
            methods.update(own)
        for path, node in nodes(ast.Attribute):
            self.assertNotIn(node.attr, NOT_USED)
            if isinstance(node.ctx, ast.Store):
                values.add(node.attr)
        self.assertEqual(methods & values, set())
        self.assertEqual(values & OWN_OF_VALUES, set())
        self.assertEqual(methods & OWN_OF_VALUES - {"add", "discard"} - set(METHODS), set())
        for path, node in nodes(ast.Attribute):
            self.assertIn(node.attr, methods | values | set(METHODS))

    def test_what_is_walked_is_walked_on_the_spot(self):
        for path, tree in trees():
            allowed = walked_on_the_spot(tree)
            for node in ast.walk(tree):
                if isinstance(node, ast.Call) and called_name(node) in WALKED:
                    self.assertIn(node, allowed, (path, node.lineno))

    def test_keywords(self):
        for path, node in nodes(ast.Call):
            names = [keyword.arg for keyword in node.keywords]
            if called_name(node) in ("min", "max"):
                self.assertLessEqual(set(names), {"key", "default"}, (path, node.lineno))
            else:
                self.assertEqual(names, [], (path, node.lineno))

    def test_the_top_of_a_file(self):
        for path, tree in trees():
            bound = []
            for node in tree.body:
                self.assertIsInstance(node, (ast.Expr, ast.Assign, ast.FunctionDef, ast.ClassDef), path)
                if isinstance(node, ast.Assign):
                    ast.literal_eval(node.value)
                    bound.append(node.targets[0].id)
                elif isinstance(node, ast.Expr):
                    self.assertIs(node, tree.body[0], path)
                else:
                    bound.append(node.name)
            self.assertEqual(len(bound), len(set(bound)), path)


if __name__ == "__main__":
    unittest.main()
