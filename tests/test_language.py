"""Those rules of the language that can be counted or looked up in the package's files."""

import ast
import pathlib
import re
import unittest

PACKAGE = pathlib.Path(__file__).resolve().parent.parent / "beginorder"
FILES = sorted(PACKAGE.glob("*.py"))
WORDS = (
    "type typing typing_extensions enum Enum IntEnum StrEnum Flag IntFlag Generic Protocol ABC ABCMeta "
    "namedtuple NamedTuple TypedDict TYPE_CHECKING abstractmethod"
).split()
PARTS = ("dataclass", "overload", "contextmanager")
OUT = (
    ast.With, ast.Match, ast.Delete, ast.Global, ast.Nonlocal, ast.Assert, ast.Yield, ast.YieldFrom,
    ast.AsyncFunctionDef, ast.Await, ast.SetComp, ast.DictComp, ast.GeneratorExp, ast.NamedExpr,
    ast.Starred, ast.Div, ast.Set, ast.Import, ast.ImportFrom,
)


class LanguageTest(unittest.TestCase):
    def test_files(self):
        names = [path.name for path in PACKAGE.iterdir() if path.name != "__pycache__"]
        self.assertEqual(sorted(names), ["__init__.py", "block.py"])

    def test_sizes_and_signs(self):
        for path in FILES:
            text = path.read_bytes().decode("utf-8")
            rows = text.split("\n")
            self.assertLessEqual(len(rows), 400, path)
            self.assertLessEqual(max(map(len, rows)), 120, path)
            self.assertEqual(re.findall(r"[^ -~\n]", text), [], path)

    def test_words(self):
        for path in FILES:
            text = path.read_text("utf-8")
            self.assertEqual([w for w in WORDS if re.search(rf"\b{w}\b", text)], [], path)
            self.assertEqual([p for p in PARTS if p in text], [], path)

    def test_forms(self):
        for path in FILES:
            for node in ast.walk(ast.parse(path.read_text("utf-8"))):
                self.assertNotIsInstance(node, OUT, path)
                if isinstance(node, ast.FunctionDef):
                    self.assertLessEqual(node.end_lineno - node.lineno + 1, 40, node.name)
                    self.assertEqual(node.decorator_list, [], node.name)
                if isinstance(node, (ast.For, ast.While)):
                    self.assertEqual(node.orelse, [], path)

    def test_names(self):
        for path in FILES:
            for node in ast.walk(ast.parse(path.read_text("utf-8"))):
                if isinstance(node, ast.Name):
                    self.assertRegex(node.id, r"^[A-Za-z][A-Za-z0-9_]*$")
                    self.assertNotIn(node.id, ("print", "open", "input", "register", "chr"))


if __name__ == "__main__":
    unittest.main()
