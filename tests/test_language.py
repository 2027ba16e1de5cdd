"""Those rules of the language that a look at the files can decide; they keep out clocks, files and the like, too."""

import ast
import builtins
import pathlib
import unittest

PACKAGE = pathlib.Path(__file__).resolve().parent.parent / "appendhall"

# L8 and L27; the program has no use for the others.
BUILTINS = [
    "len", "range", "enumerate", "zip", "min", "max", "sum", "abs", "sorted", "reversed", "int", "str", "bool",
    "list", "tuple", "dict", "set", "isinstance", "ord", "repr", "any", "all", "divmod", "iter", "property",
    "staticmethod", "ValueError",
]

UNUSED = (ast.AsyncFunctionDef, ast.AsyncFor, ast.AsyncWith, ast.Await, ast.Global, ast.Div)


def sources():
    return {path: path.read_text(encoding="utf-8") for path in sorted(PACKAGE.rglob("*.py"))}


def nodes(*kinds):
    for path, source in sources().items():
        for node in ast.walk(ast.parse(source)):
            if isinstance(node, kinds):
                yield path.name, node


class LanguageTest(unittest.TestCase):
    def test_l1_the_package_holds_python_files_alone(self):
        found = [path for path in PACKAGE.iterdir() if path.name != "__pycache__"]
        self.assertTrue(all(path.suffix == ".py" and path.is_file() for path in found))
        self.assertIn(PACKAGE / "__init__.py", found)

    def test_l2_l16_imports_come_from_the_package(self):
        self.assertEqual(list(nodes(ast.Import)), [])
        for name, node in nodes(ast.ImportFrom):
            with self.subTest(file=name, module=node.module):
                self.assertEqual(node.level, 0)
                self.assertTrue(node.module.startswith("appendhall."))
                self.assertTrue(all(alias.asname is None and alias.name != "*" for alias in node.names))

    def test_l7_l8_builtins(self):
        known = [name for name in dir(builtins) if name not in BUILTINS]
        for name, node in nodes(ast.Name):
            with self.subTest(file=name, line=node.lineno):
                self.assertNotIn(node.id, known)
                if not isinstance(node.ctx, ast.Load):
                    self.assertNotIn(node.id, dir(builtins))
        for name, node in nodes(ast.arg):
            self.assertNotIn(node.arg, dir(builtins))

    def test_l5_decorators(self):
        for name, node in nodes(ast.FunctionDef, ast.ClassDef):
            for decorator in node.decorator_list:
                self.assertIn(decorator.id, ("property", "staticmethod"))

    def test_l6_l7_statements_and_values(self):
        for name, node in nodes(*UNUSED):
            self.fail(f"{name} {node}")
        for name, node in nodes(ast.Constant):
            self.assertNotIsInstance(node.value, (float, complex, bytes))

    def test_l10_sizes(self):
        for path, source in sources().items():
            lines = source.split("\n")
            self.assertLessEqual(len(lines), 399)
            self.assertLessEqual(max(len(line) for line in lines), 120)
        for name, node in nodes(ast.FunctionDef):
            with self.subTest(file=name, function=node.name):
                self.assertLessEqual(node.end_lineno - node.lineno + 1, 40)

    def test_l14_characters(self):
        for path, source in sources().items():
            self.assertEqual([char for char in source if not (char == "\n" or " " <= char <= "~")], [])

    def test_l15_no_name_is_bound_twice(self):
        for path, source in sources().items():
            bound = []
            for node in ast.parse(source).body:
                if isinstance(node, ast.ImportFrom):
                    bound += [alias.name for alias in node.names]
                elif isinstance(node, ast.Assign):
                    bound += [target.id for target in node.targets]
                elif isinstance(node, (ast.FunctionDef, ast.ClassDef)):
                    bound.append(node.name)
                else:
                    self.assertIsInstance(node.value, ast.Constant)
            self.assertEqual(len(bound), len(set(bound)))
            self.assertEqual([name for name in bound if name in dir(builtins)], [])

    def test_l20_is(self):
        for name, node in nodes(ast.Compare):
            for sign, right in zip(node.ops, node.comparators):
                if isinstance(sign, (ast.Is, ast.IsNot)):
                    self.assertIn(right.value, (None, True, False))

    def test_l27_strings(self):
        for name, node in nodes(ast.Constant):
            if isinstance(node.value, str):
                self.assertNotIn("\x25", node.value)
                self.assertFalse(node.value.endswith("._"))


if __name__ == "__main__":
    unittest.main()
