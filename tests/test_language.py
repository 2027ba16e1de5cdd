"""Those rules of the language that a look at the files can decide; they keep out clocks, files and the like, too."""

import ast
import builtins
import pathlib
import unittest

PACKAGE = pathlib.Path(__file__).resolve().parent.parent / "appendhall"

# L8 and L27; the program has no use for the others.
BUILTINS = [
    "len", "range", "enumerate", "zip", "min", "max", "sum", "abs", "sorted", "reversed", "int", "str", "bool",
    "list", "tuple", "dict", "set", "isinstance", "ord", "repr", "any", "all", "divmod", "iter", "property",
    "staticmethod", "ValueError",
]

# L17.
WORDS = [
    "register", "mro", "elements", "open", "input", "law", "version_info", "with_traceback", "add_note", "compile",
    "dir", "eval", "exec", "exit", "gc", "globals", "help", "id", "license", "locals", "os", "quit", "super", "sys",
    "type", "vars", "typing", "enum", "namedtuple", "dataclass",
]

UNUSED = (ast.AsyncFunctionDef, ast.AsyncFor, ast.AsyncWith, ast.Await, ast.Global, ast.Div)


def sources():
    return {path: path.read_text(encoding="utf-8") for path in sorted(PACKAGE.rglob("*.py"))}


def nodes(*kinds):
    for path, source in sources().items():
        for node in ast.walk(ast.parse(source)):
            if isinstance(node, kinds):
                yield path.name, node


class LanguageTest(unittest.TestCase):
    def test_l1_the_package_holds_python_files_alone(self):
        found = [path for path in PACKAGE.iterdir() if path.name != "__pycache__"]
        self.assertTrue(all(path.suffix == ".py" and path.is_file() for path in found))
        self.assertIn(PACKAGE / "__init__.py", found)

    def test_l2_l16_imports_come_from_the_package(self):
        self.assertEqual(list(nodes(ast.Import)), [])
        for name, node in nodes(ast.ImportFrom):
            with self.subTest(file=name, module=node.module):
                self.assertEqual(node.level, 0)
                self.assertTrue(node.module.startswith("appendhall."))
                self.assertTrue(all(alias.asname is None and alias.name != "*" for alias in node.names))

    def test_l7_l8_builtins(self):
        known = [name for name in dir(builtins) if name not in BUILTINS]
        for name, node in nodes(ast.Name):
            with self.subTest(file=name, line=node.lineno):
                self.assertNotIn(node.id, known)
                if not isinstance(node.ctx, ast.Load):
                    self.assertNotIn(node.id, dir(builtins))
        for name, node in nodes(ast.arg):
            self.assertNotIn(node.arg, dir(builtins))

    def test_l5_decorators(self):
        for name, node in nodes(ast.FunctionDef, ast.ClassDef):
            for decorator in node.decorator_list:
                self.assertIn(decorator.id, ("property", "staticmethod"))

    def test_l6_l7_statements_and_values(self):
        for name, node in nodes(*UNUSED):
            self.fail(f"{name} {node}")
        for name, node in nodes(ast.Constant):
            self.assertNotIsInstance(node.value, (float, complex, bytes))

    def test_l10_sizes(self):
        for path, source in sources().items():
            lines = source.split("\n")
            self.assertLessEqual(len(lines), 399)
            self.assertLessEqual(max(len(line) for line in lines), 120)
        for name, node in nodes(ast.FunctionDef):
            with self.subTest(file=name, function=node.name):
                self.assertLessEqual(node.end_lineno - node.lineno + 1, 40)

    def test_l14_characters(self):
        for path, source in sources().items():
            self.assertEqual([char for char in source if not (char == "\n" or " " <= char <= "~")], [])

    def test_l3_l15_values_at_module_level_are_plain(self):
        plain = (ast.Constant, ast.Tuple, ast.List, ast.Dict, ast.Load, ast.BinOp, ast.operator, ast.UnaryOp, ast.USub)
        for path, source in sources().items():
            body = ast.parse(source).body
            functions = [node.name for node in body if isinstance(node, ast.FunctionDef)]
            for value in [node.value for node in body if isinstance(node, ast.Assign)]:
                for inner in ast.walk(value):
                    with self.subTest(file=path.name, line=value.lineno):
                        if isinstance(inner, ast.Name):
                            self.assertIn(inner.id, functions)
                        else:
                            self.assertIsInstance(inner, plain)
                        self.assertTrue(inner is value or not isinstance(inner, (ast.List, ast.Dict)))

    def test_l15_no_name_is_bound_twice(self):
        for path, source in sources().items():
            bound = []
            for node in ast.parse(source).body:
                if isinstance(node, ast.ImportFrom):
                    bound += [alias.name for alias in node.names]
                elif isinstance(node, ast.Assign):
                    bound += [target.id for target in node.targets]
                elif isinstance(node, (ast.FunctionDef, ast.ClassDef)):
                    bound.append(node.name)
                else:
                    self.assertIsInstance(node.value, ast.Constant)
            self.assertEqual(len(bound), len(set(bound)))
            self.assertEqual([name for name in bound if name in dir(builtins)], [])

    def test_l20_is(self):
        for name, node in nodes(ast.Compare):
            for sign, right in zip(node.ops, node.comparators):
                if isinstance(sign, (ast.Is, ast.IsNot)):
                    self.assertIn(right.value, (None, True, False))

    def test_l16_no_two_files_import_from_each_other(self):
        imported = {path.stem: set() for path in sources()}
        for name, node in nodes(ast.ImportFrom):
            imported[name[:-3]].add(node.module.split(".")[1])
        ordered = []
        while len(ordered) < len(imported):
            ready = [name for name in imported if name not in ordered and imported[name] <= set(ordered)]
            self.assertNotEqual(ready, [])
            ordered += ready

    def test_l12_l17_names(self):
        names = [(name, node.id) for name, node in nodes(ast.Name)]
        names += [(name, node.arg) for name, node in nodes(ast.arg, ast.keyword)]
        names += [(name, node.attr) for name, node in nodes(ast.Attribute)]
        names += [(name, node.name) for name, node in nodes(ast.FunctionDef, ast.ClassDef)]
        for file, name in names:
            with self.subTest(file=file, name=name):
                self.assertRegex(name, "^(_|_?[A-Za-z][A-Za-z0-9_]*|__[a-z]+__)$")
                self.assertNotIn(name, WORDS)
                self.assertNotIn(name.rstrip("0123456789_"), ["_cold", "_outside", "_record", "_written_out"])

    def test_l5_l18_a_property_has_a_name_of_its_own(self):
        functions = list(nodes(ast.FunctionDef))
        kinds = {"property": set(), "staticmethod": set(), "": set()}
        for _, node in functions:
            kinds[node.decorator_list[0].id if node.decorator_list else ""].add(node.name)
        assigned = {node.attr for _, node in nodes(ast.Attribute) if isinstance(node.ctx, ast.Store)}
        for one in ("property", "staticmethod"):
            self.assertEqual(kinds[one] & (kinds[""] | assigned), set())
        self.assertEqual(kinds["property"] & kinds["staticmethod"], set())

    def test_l18_no_name_is_a_method_and_an_attribute_of_one_class(self):
        for name, node in nodes(ast.ClassDef):
            methods = [inner.name for inner in node.body if isinstance(inner, ast.FunctionDef)]
            assigned = [inner.attr for inner in ast.walk(node)
                        if isinstance(inner, ast.Attribute) and isinstance(inner.ctx, ast.Store)]
            with self.subTest(file=name, name=node.name):
                self.assertEqual(len(methods), len(set(methods)))
                self.assertEqual(set(methods) & set(assigned), set())

    def test_l27_strings(self):
        for name, node in nodes(ast.Constant):
            if isinstance(node.value, str):
                self.assertNotIn("\x25", node.value)
                self.assertFalse(node.value.endswith("._"))


if __name__ == "__main__":
    unittest.main()
