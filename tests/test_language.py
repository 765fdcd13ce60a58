"""What can be measured of how the package is to be written: sizes, signs, words."""

import ast
import builtins
import pathlib
import re
import unittest

PACKAGE = pathlib.Path(__file__).resolve().parent.parent / "processfronts"

WORDS_LEFT_OUT = (
    "type", "typing", "typing_extensions", "enum", "Enum", "IntEnum", "StrEnum", "Flag", "IntFlag", "Generic",
    "Protocol", "ABC", "ABCMeta", "namedtuple", "NamedTuple", "TypedDict", "TYPE_CHECKING", "abstractmethod")

PARTS_LEFT_OUT = (
    ast.With, ast.Match, ast.Delete, ast.Global, ast.Nonlocal, ast.Assert, ast.Yield, ast.YieldFrom,
    ast.AsyncFunctionDef, ast.Await, ast.DictComp, ast.SetComp, ast.GeneratorExp, ast.NamedExpr, ast.Starred,
    ast.Import, ast.Div, ast.AnnAssign)

OWN_NAMES_OF_PYTHON = (
    "len", "range", "enumerate", "zip", "min", "max", "sum", "abs", "sorted", "reversed", "int", "str", "bool",
    "list", "tuple", "dict", "set", "frozenset", "isinstance", "ord", "repr", "any", "all", "divmod")

METHODS_OF_PYTHON = ("append", "copy", "count", "extend", "get", "index", "items", "keys", "pop", "values")


def files():
    return sorted(PACKAGE.glob("*.py"))


class LanguageTest(unittest.TestCase):
    def test_only_python_files_lie_in_the_package(self):
        found = [path.name for path in PACKAGE.iterdir() if path.name != "__pycache__"]
        self.assertEqual(sorted(found), [path.name for path in files()])
        self.assertIn("__init__.py", found)

    def test_sizes_and_signs(self):
        for path in files():
            text = path.read_text(encoding="utf-8")
            rows = text.split("\n")
            self.assertLessEqual(len(rows), 399, path.name)
            self.assertLessEqual(max(len(row) for row in rows), 120, path.name)
            self.assertEqual(re.findall(r"[^ -~\n]", text), [], path.name)

    def test_functions_have_at_most_forty_lines(self):
        for path in files():
            for node in ast.walk(ast.parse(path.read_text())):
                if isinstance(node, ast.FunctionDef):
                    self.assertLessEqual(node.end_lineno - node.lineno + 1, 40, node.name)
                    self.assertEqual(node.decorator_list, [], node.name)

    def test_words_left_out(self):
        for path in files():
            words = re.findall(r"\w+", path.read_text())
            self.assertEqual([word for word in words if word in WORDS_LEFT_OUT], [], path.name)

    def test_parts_of_python_left_out(self):
        for path in files():
            for node in ast.walk(ast.parse(path.read_text())):
                self.assertNotIsInstance(node, PARTS_LEFT_OUT, path.name)
                self.assertNotIsInstance(getattr(node, "value", None), float, path.name)

    def test_names_are_the_package_s_own_or_left_in(self):
        for path in files():
            nodes = list(ast.walk(ast.parse(path.read_text())))
            bound = {node.name for node in nodes if isinstance(node, (ast.FunctionDef, ast.ClassDef))}
            bound |= {node.arg for node in nodes if isinstance(node, ast.arg)}
            bound |= {node.name for node in nodes if isinstance(node, ast.alias)}
            bound |= {node.id for node in nodes if isinstance(node, ast.Name) and isinstance(node.ctx, ast.Store)}
            read = {node.id for node in nodes if isinstance(node, ast.Name)}
            self.assertEqual(sorted(read - bound - set(OWN_NAMES_OF_PYTHON)), [], path.name)
            self.assertEqual(sorted(bound & set(dir(builtins))), [], path.name)

    def test_methods_are_the_package_s_own_or_left_in(self):
        parsed = [ast.parse(path.read_text()) for path in files()]
        nodes = [node for tree in parsed for node in ast.walk(tree)]
        own = {node.name for node in nodes if isinstance(node, ast.FunctionDef)}
        called = {node.func.attr for node in nodes
                  if isinstance(node, ast.Call) and isinstance(node.func, ast.Attribute)}
        self.assertEqual(sorted(called - own - set(METHODS_OF_PYTHON)), [])

    def test_imports_are_the_package_s_own(self):
        for path in files():
            for node in ast.walk(ast.parse(path.read_text())):
                if isinstance(node, ast.ImportFrom):
                    self.assertEqual(node.level, 0, path.name)
                    self.assertTrue(node.module.startswith("processfronts."), path.name)


if __name__ == "__main__":
    unittest.main()
