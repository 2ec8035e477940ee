"""Those rules for the program's own code that can be told at a glance."""

import ast
import io
import tokenize
import unittest
from pathlib import Path

PACKAGE = Path(__file__).resolve().parent.parent / "lookon"
FILES = sorted(PACKAGE.rglob("*.py"))
TREES = {path.stem: ast.parse(path.read_text()) for path in FILES}
BUILTINS = {"len", "range", "enumerate", "zip", "min", "max", "sum", "abs", "sorted", "reversed", "int", "str", "bool",
            "list", "tuple", "dict", "set", "isinstance", "ord", "repr", "any", "all", "ValueError"}
METHODS = {"append", "clear", "copy", "count", "endswith", "extend", "find", "get", "index", "insert", "items", "join",
           "keys", "pop", "remove", "replace", "reverse", "setdefault", "split", "startswith", "update", "values",
           "add", "discard"}
BARRED = (ast.AsyncFunctionDef, ast.Global, ast.Import, ast.Try, ast.AnnAssign, ast.Div, ast.Starred, ast.Yield,
          ast.GeneratorExp)


def nodes():
    for name, tree in TREES.items():
        for node in ast.walk(tree):
            yield f"{name}:{getattr(node, 'lineno', 0)}", node


def imports(name):
    return [node for node in TREES[name].body if isinstance(node, ast.ImportFrom)]


class RulesTest(unittest.TestCase):
    def test_the_folder(self):
        self.assertIn("__init__", TREES)
        others = [path for path in PACKAGE.rglob("*") if path.suffix != ".py" and "__pycache__" not in path.parts]
        self.assertEqual(others, [])

    def test_sizes(self):
        for path in FILES:
            lines = path.read_text().split("\n")
            self.assertLessEqual(len(lines), 400, path)
            self.assertLessEqual(max(map(len, lines)), 120, path)
        for place, node in nodes():
            if isinstance(node, ast.FunctionDef):
                self.assertLessEqual(node.end_lineno - node.lineno + 1, 40, place)

    def test_characters(self):
        for path in FILES:
            odd = {sign for sign in path.read_text() if sign != "\n" and not " " <= sign <= "~"}
            self.assertEqual(odd, set(), path)

    def test_strings(self):
        for path in FILES:
            for token in tokenize.generate_tokens(io.StringIO(path.read_text()).readline):
                if token.type == tokenize.STRING:
                    self.assertNotIn("%", token.string, (path, token.start))
                    left = token.string.replace("\\\\", "")
                    for sign in ("\\n", "\\t", '\\"', "\\'"):
                        left = left.replace(sign, "")
                    self.assertNotIn("\\", left, (path, token.start))

    def test_statements(self):
        for place, node in nodes():
            self.assertNotIsInstance(node, BARRED, place)
            self.assertFalse(getattr(node, "decorator_list", []), place)
            self.assertFalse(getattr(node, "annotation", None) or getattr(node, "returns", None), place)
            self.assertFalse(isinstance(node, ast.Constant) and isinstance(node.value, (float, complex)), place)

    def test_imports_name_the_file_that_defines(self):
        for name in TREES:
            for node in imports(name):
                package, _, module = node.module.partition(".")
                self.assertEqual((package, node.level), ("lookon", 0))
                defined = {part.name for part in TREES[module].body if isinstance(part, (ast.FunctionDef, ast.ClassDef))}
                defined |= {part.targets[0].id for part in TREES[module].body if isinstance(part, ast.Assign)}
                for alias in node.names:
                    self.assertIn(alias.name, defined, name)
                    self.assertIsNone(alias.asname)

    def test_imports_go_one_way(self):
        def below(name, way):
            self.assertNotIn(name, way)
            for node in imports(name):
                below(node.module.partition(".")[2], way + [name])
        for name in TREES:
            below(name, [])

    def test_names_that_are_used(self):
        own = {name for tree in TREES.values() for name in self.bound(tree)}
        for place, node in nodes():
            if isinstance(node, ast.Name) and isinstance(node.ctx, ast.Load):
                self.assertIn(node.id, own | BUILTINS, place)
            if isinstance(node, ast.Call) and isinstance(node.func, ast.Attribute):
                self.assertIn(node.func.attr, own | METHODS | {"__init__"}, place)

    def bound(self, tree):
        for node in ast.walk(tree):
            if isinstance(node, (ast.FunctionDef, ast.ClassDef)):
                yield node.name
            elif isinstance(node, ast.arg):
                yield node.arg
            elif isinstance(node, ast.Name) and isinstance(node.ctx, ast.Store):
                yield node.id

    def test_no_own_name_is_that_of_a_builtin_or_an_import(self):
        for name, tree in TREES.items():
            taken = {alias.name for node in imports(name) for alias in node.names}
            taken |= {node.name for node in tree.body if isinstance(node, ast.ClassDef)}
            for node in ast.walk(tree):
                if isinstance(node, ast.arg):
                    self.assertNotIn(node.arg, taken | BUILTINS, name)
                elif isinstance(node, ast.Name) and isinstance(node.ctx, ast.Store):
                    self.assertNotIn(node.id, taken | BUILTINS, name)

    def test_no_name_is_a_method_and_an_attribute(self):
        methods, attributes = set(), set()
        for _, node in nodes():
            if isinstance(node, ast.ClassDef):
                methods |= {part.name for part in node.body if isinstance(part, ast.FunctionDef)}
            elif isinstance(node, ast.Attribute) and isinstance(node.ctx, ast.Store):
                attributes.add(node.attr)
        self.assertEqual(methods & attributes, set())


if __name__ == "__main__":
    unittest.main()
