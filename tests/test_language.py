"""The package's files keep to the plainest of the rules of LANGUAGE.md; the others are read for, not tested."""

import ast
import builtins
import pathlib
import re
import unittest

PACKAGE = pathlib.Path(__file__).resolve().parent.parent / "sayswho"
FILES = sorted(PACKAGE.glob("*.py"))

# L17's last list.
WORDS = ("type", "typing", "typing_extensions", "enum", "Enum", "IntEnum", "StrEnum", "Flag", "IntFlag", "Generic",
         "Protocol", "ABC", "ABCMeta", "namedtuple", "NamedTuple", "TypedDict", "TYPE_CHECKING", "abstractmethod")
# L6 and L7.
KINDS = (ast.With, ast.Match, ast.Delete, ast.Global, ast.Nonlocal, ast.Assert, ast.Yield, ast.YieldFrom, ast.Await,
         ast.AsyncFor, ast.AsyncFunctionDef, ast.AsyncWith, ast.Div, ast.SetComp, ast.DictComp, ast.GeneratorExp,
         ast.NamedExpr, ast.Starred)
# L8 and L27.
NAMES = ("len", "range", "enumerate", "zip", "min", "max", "sum", "abs", "sorted", "reversed", "int", "str", "bool", "list",
         "tuple", "dict", "set", "frozenset", "isinstance", "ord", "repr", "any", "all", "divmod", "Exception",
         "ValueError", "TypeError", "KeyError", "IndexError", "LookupError", "ZeroDivisionError", "ArithmeticError",
         "OverflowError", "RuntimeError", "NotImplementedError", "AttributeError", "StopIteration")
# L25.
METHODS = ("append", "clear", "copy", "count", "endswith", "extend", "find", "get", "index", "insert", "isalnum",
           "isalpha", "isdigit", "islower", "isspace", "isupper", "items", "join", "keys", "ljust", "lower", "lstrip",
           "partition", "pop", "remove", "replace", "reverse", "rfind", "rjust", "rpartition", "rsplit", "rstrip",
           "setdefault", "split", "splitlines", "startswith", "strip", "update", "upper", "values", "zfill",
           "bit_length")
# L23.
WALKED = ("zip", "enumerate", "reversed", "range", "items", "keys", "values")
WALKERS = ("list", "tuple", "dict", "sorted", "sum", "any", "all", "enumerate", "zip", "min", "max", "join")


def called(node):
    if not isinstance(node, ast.Call):
        return None
    return node.func.id if isinstance(node.func, ast.Name) else getattr(node.func, "attr", None)


class Language(unittest.TestCase):
    def each_node(self, *kinds):
        for file in FILES:
            for node in ast.walk(ast.parse(file.read_text())):
                if isinstance(node, kinds):
                    yield file.name, node

    def test_files_alone_lie_in_the_package(self):
        names = [path.name for path in PACKAGE.iterdir() if path.name != "__pycache__"]
        self.assertIn("__init__.py", names)
        for name in names:
            self.assertRegex(name, r"\A[a-z0-9_]+\.py\Z")

    def test_size_and_signs(self):
        for file in FILES:
            text = file.read_text(encoding="utf-8")
            lines = text.split("\n")
            self.assertLessEqual(len(lines), 401, file.name)
            for place, line in enumerate(lines, start=1):
                self.assertRegex(line, r"\A[ -~]{0,120}\Z", f"{file.name}:{place}")
        for name, node in self.each_node(ast.FunctionDef):
            self.assertLessEqual(node.end_lineno - node.lineno + 1, 40, f"{name}:{node.lineno}")

    def test_imports(self):
        for name, node in self.each_node(ast.Import, ast.ImportFrom):
            self.assertIsInstance(node, ast.ImportFrom, f"{name}:{node.lineno}")
            self.assertRegex(node.module or "", r"\A(sayswho\.[a-z0-9_]+|__future__)\Z", f"{name}:{node.lineno}")
            self.assertEqual(node.level, 0, f"{name}:{node.lineno}")

    def test_kinds_that_are_not_used(self):
        for name, node in self.each_node(*KINDS):
            self.fail(f"{name}:{getattr(node, 'lineno', '?')}: {node!r}")
        for name, node in self.each_node(ast.FunctionDef):
            self.assertEqual(node.decorator_list, [], f"{name}:{node.lineno}")
            self.assertIsNone(node.args.vararg or node.args.kwarg, f"{name}:{node.lineno}")

    def test_words_that_stand_nowhere(self):
        for file in FILES:
            found = re.findall(r"\w+", file.read_text())
            for word in found:
                self.assertNotIn(word, WORDS, file.name)
                self.assertNotRegex(word, "dataclass|overload|contextmanager", file.name)

    def test_plain_names(self):
        for name, node in self.each_node(ast.Name, ast.arg, ast.FunctionDef, ast.ClassDef, ast.Attribute):
            word = getattr(node, "id", None) or getattr(node, "arg", None) or getattr(node, "attr", None) or node.name
            if word not in ("__init__", "__eq__", "__repr__", "__str__", "__len__"):
                self.assertRegex(word, r"\A[A-Za-z][A-Za-z0-9_]*\Z", f"{name}:{node.lineno}")

    def test_no_name_of_pythons_own_or_of_an_import_is_bound_again(self):
        for file in FILES:
            tree = ast.parse(file.read_text())
            taken = set(dir(builtins))
            for node in ast.walk(tree):
                if isinstance(node, ast.ImportFrom):
                    taken.update(alias.asname or alias.name for alias in node.names)
                if isinstance(node, ast.ClassDef):
                    taken.add(node.name)
            for node in ast.walk(tree):
                if isinstance(node, ast.Name) and isinstance(node.ctx, ast.Store):
                    self.assertNotIn(node.id, taken, f"{file.name}:{node.lineno}")
                if isinstance(node, ast.arg):
                    self.assertNotIn(node.arg, taken, f"{file.name}:{node.lineno}")

    def test_each_name_is_bound_once_at_the_top(self):
        for file in FILES:
            bound = []
            for node in ast.parse(file.read_text()).body:
                if isinstance(node, (ast.FunctionDef, ast.ClassDef)):
                    bound.append(node.name)
                if isinstance(node, ast.Assign):
                    bound += [target.id for target in node.targets]
                if isinstance(node, ast.ImportFrom):
                    bound += [alias.asname or alias.name for alias in node.names]
            self.assertEqual(sorted(set(bound)), sorted(bound), file.name)

    def test_pythons_own_names_and_methods(self):
        own = [node.name for _, node in self.each_node(ast.FunctionDef)]
        for name, node in self.each_node(ast.Name):
            if hasattr(builtins, node.id):
                self.assertIn(node.id, NAMES, f"{name}:{node.lineno}")
        for name, node in self.each_node(ast.Call):
            if isinstance(node.func, ast.Attribute):
                self.assertIn(node.func.attr, METHODS + tuple(own), f"{name}:{node.lineno}")

    def test_is_stands_beside_none_and_truths_alone(self):
        for name, node in self.each_node(ast.Compare):
            for sign, right in zip(node.ops, node.comparators):
                if isinstance(sign, (ast.Is, ast.IsNot)):
                    self.assertIn(getattr(right, "value", "other"), (None, True, False), f"{name}:{node.lineno}")

    def test_walked_at_once(self):
        walked = set()
        for name, node in self.each_node(ast.For, ast.comprehension, ast.Call):
            if isinstance(node, (ast.For, ast.comprehension)):
                walked.add((name, ast.dump(node.iter, include_attributes=True)))
            elif called(node) in WALKERS and node.args:
                parts = node.args if called(node) == "zip" else node.args[:1]
                walked.update((name, ast.dump(part, include_attributes=True)) for part in parts)
        for name, node in self.each_node(ast.Call):
            if called(node) in WALKED:
                self.assertIn((name, ast.dump(node, include_attributes=True)), walked, f"{name}:{node.lineno}")

    def test_assignments_and_loops(self):
        for name, node in self.each_node(ast.Assign):
            self.assertEqual(len(node.targets), 1, f"{name}:{node.lineno}")
            self.assertNotIsInstance(node.targets[0], (ast.Tuple, ast.List), f"{name}:{node.lineno}")
        for name, node in self.each_node(ast.For, ast.While):
            self.assertEqual(node.orelse, [], f"{name}:{node.lineno}")
        for name, node in self.each_node(ast.ListComp):
            self.assertEqual(len(node.generators), 1, f"{name}:{node.lineno}")
            self.assertLessEqual(len(node.generators[0].ifs), 1, f"{name}:{node.lineno}")

    def test_classes(self):
        for name, node in self.each_node(ast.ClassDef):
            self.assertEqual(node.decorator_list + node.keywords, [], f"{name}:{node.lineno}")
            self.assertLessEqual(len(node.bases), 1, f"{name}:{node.lineno}")
            for part in node.body:
                self.assertIsInstance(part, (ast.FunctionDef, ast.Pass), f"{name}:{part.lineno}")

    def test_names_of_methods_and_values(self):
        classes = [node for _, node in self.each_node(ast.ClassDef)]
        methods = [part.name for node in classes for part in node.body if isinstance(part, ast.FunctionDef)]
        own = {name for kind in (str, int, list, tuple, dict, set, bytes) for name in dir(kind)}
        for name in methods:
            self.assertTrue(name not in own or name in METHODS + ("add", "discard", "__init__"), name)
        for name, node in self.each_node(ast.Attribute):
            if isinstance(node.ctx, ast.Store):
                self.assertNotIn(node.attr, methods, f"{name}:{node.lineno}")
                self.assertNotIn(node.attr, own, f"{name}:{node.lineno}")

    def test_errors_that_are_taken(self):
        raised = [node.name for name, node in self.each_node(ast.ClassDef) if name == "errors.py"]
        for name, node in self.each_node(ast.ExceptHandler):
            self.assertIn(getattr(node.type, "id", None), raised, f"{name}:{node.lineno}")
        for name, node in self.each_node(ast.Try):
            self.assertEqual(node.finalbody, [], f"{name}:{node.lineno}")

    def test_no_two_files_draw_from_one_another(self):
        drawn = {file.stem: set() for file in FILES}
        for name, node in self.each_node(ast.ImportFrom):
            drawn[name.removesuffix(".py")].add(node.module.removeprefix("sayswho."))
        while drawn:
            free = [name for name in drawn if not drawn[name] & set(drawn)]
            self.assertNotEqual(free, [], drawn)
            for name in free:
                del drawn[name]

    def test_texts_without_the_percent_sign(self):
        for name, node in self.each_node(ast.Constant):
            if isinstance(node.value, str):
                self.assertNotIn("%", node.value, f"{name}:{node.lineno}")


if __name__ == "__main__":
    unittest.main()
