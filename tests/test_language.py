"""The package's files keep to the plainest of the rules of LANGUAGE.md; the others are read for, not tested."""

import ast
import pathlib
import re
import unittest

PACKAGE = pathlib.Path(__file__).resolve().parent.parent / "sayswho"
FILES = sorted(PACKAGE.glob("*.py"))

# L17's last list.
WORDS = ("type", "typing", "typing_extensions", "enum", "Enum", "IntEnum", "StrEnum", "Flag", "IntFlag", "Generic",
         "Protocol", "ABC", "ABCMeta", "namedtuple", "NamedTuple", "TypedDict", "TYPE_CHECKING", "abstractmethod")
# L6 and L7.
KINDS = (ast.With, ast.Match, ast.Delete, ast.Global, ast.Nonlocal, ast.Assert, ast.Yield, ast.YieldFrom, ast.Await,
         ast.AsyncFor, ast.AsyncFunctionDef, ast.AsyncWith, ast.Div, ast.SetComp, ast.DictComp, ast.GeneratorExp,
         ast.NamedExpr, ast.Starred)


class Language(unittest.TestCase):
    def each_node(self, *kinds):
        for file in FILES:
            for node in ast.walk(ast.parse(file.read_text())):
                if isinstance(node, kinds):
                    yield file.name, node

    def test_files_alone_lie_in_the_package(self):
        names = [path.name for path in PACKAGE.iterdir() if path.name != "__pycache__"]
        self.assertIn("__init__.py", names)
        for name in names:
            self.assertRegex(name, r"\A[a-z0-9_]+\.py\Z")

    def test_size_and_signs(self):
        for file in FILES:
            text = file.read_text(encoding="utf-8")
            lines = text.split("\n")
            self.assertLessEqual(len(lines), 401, file.name)
            for place, line in enumerate(lines, start=1):
                self.assertRegex(line, r"\A[ -~]{0,120}\Z", f"{file.name}:{place}")
        for name, node in self.each_node(ast.FunctionDef):
            self.assertLessEqual(node.end_lineno - node.lineno + 1, 40, f"{name}:{node.lineno}")

    def test_imports(self):
        for name, node in self.each_node(ast.Import, ast.ImportFrom):
            self.assertIsInstance(node, ast.ImportFrom, f"{name}:{node.lineno}")
            self.assertRegex(node.module or "", r"\A(sayswho\.[a-z0-9_]+|__future__)\Z", f"{name}:{node.lineno}")
            self.assertEqual(node.level, 0, f"{name}:{node.lineno}")

    def test_kinds_that_are_not_used(self):
        for name, node in self.each_node(*KINDS):
            self.fail(f"{name}:{getattr(node, 'lineno', '?')}: {node!r}")
        for name, node in self.each_node(ast.FunctionDef):
            self.assertEqual(node.decorator_list, [], f"{name}:{node.lineno}")
            self.assertIsNone(node.args.vararg or node.args.kwarg, f"{name}:{node.lineno}")

    def test_words_that_stand_nowhere(self):
        for file in FILES:
            found = re.findall(r"\w+", file.read_text())
            for word in found:
                self.assertNotIn(word, WORDS, file.name)
                self.assertNotRegex(word, "dataclass|overload|contextmanager", file.name)


if __name__ == "__main__":
    unittest.main()
