"""The files of the package keep to the part of Python that the project allows.

What a walk over the code can see is checked here: sizes, characters, statements, builtins, methods,
imports, names. It does not replace reading the rules.
"""

import ast
import unittest
import warnings
from pathlib import Path

PACKAGE = Path(__file__).resolve().parent.parent / "neverlate"
FILES = sorted(path for path in PACKAGE.rglob("*") if "__pycache__" not in path.parts)

BARRED_NODES = (
    ast.Global, ast.AsyncFunctionDef, ast.AsyncFor, ast.AsyncWith, ast.Await, ast.AnnAssign, ast.Nonlocal,
    ast.With, ast.Match, ast.Lambda, ast.YieldFrom, ast.Div, ast.MatMult, ast.NamedExpr, ast.Starred,
    ast.GeneratorExp,
)
BUILTINS = {
    "len", "range", "enumerate", "zip", "min", "max", "sum", "abs", "sorted", "reversed", "int", "str", "bool",
    "list", "tuple", "dict", "set", "isinstance", "any", "all", "divmod", "ValueError", "super", "property",
}
METHODS = {
    "append", "clear", "count", "endswith", "extend", "find", "get", "index", "insert", "items", "join", "keys",
    "ljust", "pop", "remove", "replace", "reverse", "rjust", "rstrip", "setdefault", "split", "startswith", "strip",
    "update", "values", "zfill", "add", "discard",
}
LIBRARY = {
    ("math", "gcd"), ("math", "lcm"), ("heapq", "heappush"), ("heapq", "heappop"), ("itertools", "combinations"),
}
BARRED_NAMES = {
    "register", "mro", "elements", "open", "input", "law", "version_info", "with_traceback", "add_note",
    "type", "typing", "enum", "exec", "eval", "compile", "globals", "locals", "vars", "dir", "id", "help",
    "getattr", "setattr", "hasattr", "delattr", "exit", "quit", "os", "sys", "gc", "float", "chr", "bytes",
}


def trees():
    for path in FILES:
        yield path.name, ast.parse(path.read_text(encoding="utf-8"))


class Files(unittest.TestCase):
    def test_nothing_but_python_files(self):
        for path in FILES:
            self.assertTrue(path.is_file() and path.suffix == ".py", path)
            self.assertRegex(path.name, r"^[a-z0-9_]+\.py$")

    def test_characters_and_sizes(self):
        for path in FILES:
            text = path.read_text(encoding="utf-8")
            self.assertEqual([c for c in text if c != "\n" and not " " <= c <= "~"], [], path)
            self.assertNotIn("%", text.replace(" % ", ""), path)
            lines = text.split("\n")
            self.assertLessEqual(len(lines), 399, path)
            self.assertLessEqual(max(len(line) for line in lines), 120, path)

    def test_no_warnings(self):
        with warnings.catch_warnings():
            warnings.simplefilter("error")
            for path in FILES:
                compile(path.read_text(encoding="utf-8"), str(path), "exec")


class Code(unittest.TestCase):
    def test_functions_are_short(self):
        for name, tree in trees():
            for node in ast.walk(tree):
                if isinstance(node, ast.FunctionDef):
                    self.assertLessEqual(node.end_lineno - node.lineno + 1, 40, (name, node.name))

    def test_module_level(self):
        allowed = (ast.Expr, ast.ImportFrom, ast.FunctionDef, ast.ClassDef, ast.Assign)
        for name, tree in trees():
            self.assertIsNotNone(ast.get_docstring(tree), name)
            bound = []
            for node in tree.body:
                self.assertIsInstance(node, allowed, name)
                if isinstance(node, ast.Assign):
                    ast.literal_eval(node.value)
                    bound.extend(target.id for target in node.targets)
                elif isinstance(node, ast.ImportFrom):
                    bound.extend(alias.name for alias in node.names)
                elif isinstance(node, (ast.FunctionDef, ast.ClassDef)):
                    bound.append(node.name)
            self.assertEqual(len(bound), len(set(bound)), name)

    def test_no_barred_statement_or_expression(self):
        for name, tree in trees():
            for node in ast.walk(tree):
                self.assertNotIsInstance(node, BARRED_NODES, (name, getattr(node, "lineno", 0)))
                if isinstance(node, ast.Constant):
                    self.assertNotIsInstance(node.value, (float, complex, bytes), name)

    def test_handlers_name_errors_of_the_program(self):
        tree = ast.parse((PACKAGE / "errors.py").read_text())
        own = {row.name for row in tree.body if isinstance(row, ast.ClassDef)}
        for name, tree in trees():
            for node in ast.walk(tree):
                if isinstance(node, ast.Try):
                    self.assertEqual(node.finalbody, [], name)
                    for handler in node.handlers:
                        self.assertIsInstance(handler.type, ast.Name, name)
                        self.assertIn(handler.type.id, own, (name, node.lineno))

    def test_raised_errors_are_created_on_the_spot(self):
        for name, tree in trees():
            for node in ast.walk(tree):
                if isinstance(node, ast.Raise) and node.exc is not None:
                    self.assertIsInstance(node.exc, ast.Call, (name, node.lineno))
                    self.assertIsInstance(node.exc.func, ast.Name, (name, node.lineno))

    def test_generators(self):
        names, generators = [], []
        for name, tree in trees():
            yields = [node for node in ast.walk(tree) if isinstance(node, ast.Yield)]
            rows = [node.value for node in ast.walk(tree) if isinstance(node, ast.Expr)]
            self.assertTrue(all(node in rows for node in yields), name)
            for node in ast.walk(tree):
                if isinstance(node, ast.FunctionDef):
                    names.append(node.name)
                    if any(part in yields for part in ast.walk(node)):
                        generators.append(node.name)
                        self.assertEqual(node.decorator_list, [], (name, node.name))
                        self.assertFalse(any(isinstance(part, ast.Try) for part in ast.walk(node)), node.name)
                elif isinstance(node, ast.Attribute) and isinstance(node.ctx, ast.Store):
                    names.append(node.attr)
        for name in generators:
            self.assertEqual(names.count(name), 1, name)

    def test_imports(self):
        graph = {}
        for name, tree in trees():
            graph[name[:-3]] = []
            for node in ast.walk(tree):
                self.assertNotIsInstance(node, ast.Import, name)
                if not isinstance(node, ast.ImportFrom):
                    continue
                self.assertEqual(node.level, 0, name)
                for alias in node.names:
                    self.assertIsNone(alias.asname, name)
                    if not node.module.startswith("neverlate."):
                        self.assertIn((node.module, alias.name), LIBRARY, name)
                        continue
                    graph[name[:-3]].append(node.module[10:])
                    defined = ast.parse((PACKAGE / (node.module[10:] + ".py")).read_text()).body
                    names = [row.name for row in defined if isinstance(row, (ast.FunctionDef, ast.ClassDef))]
                    names += [row.targets[0].id for row in defined if isinstance(row, ast.Assign)]
                    self.assertIn(alias.name, names, name)
        self.assert_no_circle(graph)

    def assert_no_circle(self, graph):
        while graph:
            ends = [name for name, imported in graph.items() if not set(imported) & set(graph)]
            self.assertTrue(ends, sorted(graph))
            for name in ends:
                del graph[name]

    def test_names(self):
        python = set(dir(__builtins__)) if not isinstance(__builtins__, dict) else set(__builtins__)
        for name, tree in trees():
            imported = {a.name for n in tree.body if isinstance(n, ast.ImportFrom) for a in n.names}
            classes = {n.name for n in tree.body if isinstance(n, ast.ClassDef)}
            for node in ast.walk(tree):
                if isinstance(node, ast.Name) and isinstance(node.ctx, ast.Load) and node.id in python:
                    self.assertIn(node.id, BUILTINS, (name, node.lineno))
                bound = None
                if isinstance(node, ast.Name) and isinstance(node.ctx, ast.Store):
                    bound = node.id
                elif isinstance(node, ast.arg):
                    bound = node.arg
                elif isinstance(node, (ast.FunctionDef, ast.ClassDef)):
                    bound = None if node.name == "__init__" else node.name
                if bound is None:
                    continue
                self.assertFalse(bound.startswith("__"), (name, bound))
                self.assertNotIn(bound, python | BARRED_NAMES, (name, node.lineno))
                if not isinstance(node, ast.ClassDef):
                    self.assertNotIn(bound, imported | classes, (name, node.lineno))

    def test_methods(self):
        own = set()
        for _, tree in trees():
            for node in ast.walk(tree):
                if isinstance(node, ast.ClassDef):
                    own.update(row.name for row in node.body if isinstance(row, ast.FunctionDef))
        for name, tree in trees():
            for node in ast.walk(tree):
                if isinstance(node, ast.Call) and isinstance(node.func, ast.Attribute):
                    self.assertIn(node.func.attr, own | METHODS, (name, node.lineno))

    def test_classes(self):
        allowed = {"__init__", "__eq__", "__repr__", "__str__", "__len__"}
        for name, tree in trees():
            for made in ast.walk(tree):
                if not isinstance(made, ast.ClassDef):
                    continue
                self.assertEqual(made.decorator_list, [], name)
                methods = [row for row in made.body if isinstance(row, ast.FunctionDef)]
                self.assertEqual(len(methods), len({row.name for row in methods}), (name, made.name))
                stored = {
                    node.attr for node in ast.walk(made)
                    if isinstance(node, ast.Attribute) and isinstance(node.ctx, ast.Store)
                }
                for row in methods:
                    self.assertNotIn(row.name, stored, (name, made.name))
                    self.assertTrue(not row.name.startswith("__") or row.name in allowed, (name, row.name))

    def test_decorators(self):
        for name, tree in trees():
            for node in ast.walk(tree):
                if isinstance(node, ast.FunctionDef):
                    names = [decorator.id for decorator in node.decorator_list]
                    self.assertIn(names, ([], ["property"]), (name, node.name))

    def test_identity_is_asked_of_none_alone(self):
        for name, tree in trees():
            for node in ast.walk(tree):
                if isinstance(node, ast.Compare):
                    for sign, value in zip(node.ops, node.comparators):
                        if isinstance(sign, (ast.Is, ast.IsNot)):
                            self.assertIsInstance(value, ast.Constant, (name, node.lineno))
                            self.assertIn(value.value, (None, True, False), (name, node.lineno))


if __name__ == "__main__":
    unittest.main()
