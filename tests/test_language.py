"""Rules of the language subset that can be seen in the text of the package."""

import ast
import builtins
import pathlib
import unittest

PACKAGE = pathlib.Path(__file__).resolve().parent.parent / "twinrope"
FILES = sorted(path for path in PACKAGE.iterdir() if path.name != "__pycache__")
TREES = {path: ast.parse(path.read_text(encoding="utf-8")) for path in FILES if path.suffix == ".py"}
ALLOWED_BUILTINS = set("""
    len range enumerate zip min max sum abs sorted reversed int str bool bytes list tuple dict set frozenset
    isinstance ord repr any all divmod pow getattr hasattr setattr iter next map type property classmethod
    staticmethod super object float Exception ValueError TypeError KeyError IndexError LookupError ZeroDivisionError
    ArithmeticError OverflowError RuntimeError NotImplementedError AttributeError StopIteration NotImplemented
""".split())
BARRED = set("""
    type typing enum Enum Generic Protocol ABC namedtuple register mro elements open input law dir eval exec exit id
    vars globals locals help compile format
""".split())
LIBRARY = {"math", "heapq", "itertools", "collections", "__future__"}
LAZY = {"range", "zip", "enumerate", "reversed", "map"}
EATERS = {"list", "tuple", "dict", "sorted", "sum", "any", "all", "enumerate", "zip", "min", "max", "len", "reversed",
          "iter", "deque"}


def parents(tree):
    return {child: node for node in ast.walk(tree) for child in ast.iter_child_nodes(node)}


def functions(tree):
    return [node for node in ast.walk(tree) if isinstance(node, ast.FunctionDef)]


def local_names(function):
    """The parameters of a function and every name that it assigns."""
    spec = function.args
    names = [arg.arg for arg in spec.args + spec.kwonlyargs + spec.posonlyargs]
    names += [arg.arg for arg in (spec.vararg, spec.kwarg) if arg]
    stored = [node.id for node in ast.walk(function) if isinstance(node, ast.Name) and isinstance(node.ctx, ast.Store)]
    return set(names + stored)


def imports(tree):
    return [node for node in tree.body if isinstance(node, ast.ImportFrom)]


class Language(unittest.TestCase):

    def each(self, nodes=None):
        for path, tree in TREES.items():
            for node in ast.walk(tree):
                if nodes is None or isinstance(node, nodes):
                    yield f"{path.name} {getattr(node, 'lineno', '')}", node

    def test_files_and_characters(self):
        self.assertEqual([path.name for path in FILES if path.suffix != ".py"], [])
        for path in FILES:
            text = path.read_text(encoding="utf-8")
            self.assertTrue(all(sign == "\n" or " " <= sign <= "~" for sign in text), path.name)
            self.assertLessEqual(len(text.splitlines()), 399, path.name)
            self.assertLessEqual(max(len(line) for line in text.splitlines()), 120, path.name)

    def test_functions_are_small(self):
        for path, tree in TREES.items():
            for function in functions(tree):
                self.assertLessEqual(function.end_lineno - function.lineno + 1, 40, f"{path.name} {function.name}")

    def test_imports_name_the_file_that_defines_them(self):
        defined = {}
        for path, tree in TREES.items():
            shapes = [node.name for node in tree.body if isinstance(node, (ast.FunctionDef, ast.ClassDef))]
            values = [node.targets[0].id for node in tree.body if isinstance(node, ast.Assign)]
            defined[f"twinrope.{path.stem}"] = shapes + values
        for path, tree in TREES.items():
            self.assertFalse([node for node in ast.walk(tree) if isinstance(node, ast.Import)])
            for node in imports(tree):
                self.assertEqual(node.level, 0)
                for alias in node.names:
                    self.assertIsNone(alias.asname)
                    known = node.module in LIBRARY or alias.name in defined.get(node.module, [])
                    self.assertTrue(known, f"{path.name} {alias.name}")

    def test_no_two_files_import_from_each_other(self):
        above = {path.stem: [node.module.split(".")[-1] for node in imports(tree)] for path, tree in TREES.items()}
        done = set(LIBRARY)
        while not set(above) <= done:
            ready = [name for name in above if name not in done and set(above[name]) <= done]
            self.assertTrue(ready, "a circle of imports")
            done.update(ready)

    def test_names(self):
        for path, tree in TREES.items():
            taken = {alias.name for node in imports(tree) for alias in node.names}
            taken |= {node.name for node in tree.body if isinstance(node, ast.ClassDef)} | set(dir(builtins)) | BARRED
            for function in functions(tree):
                self.assertEqual(sorted(local_names(function) & taken), [], f"{path.name} {function.name}")
                self.assertNotIn(function.name, BARRED)

    def test_builtins(self):
        for place, node in self.each(ast.Name):
            if node.id in dir(builtins):
                self.assertIn(node.id, ALLOWED_BUILTINS, place)

    def test_no_barred_forms(self):
        for place, node in self.each((ast.AsyncFunctionDef, ast.Div, ast.Await)):
            self.fail(f"{place}: {type(node).__name__}")
        for place, node in self.each(ast.Constant):
            self.assertNotIsInstance(node.value, (float, complex), place)

    def test_decorators(self):
        for place, node in self.each(ast.FunctionDef):
            for decorator in node.decorator_list:
                word = ast.unparse(decorator).split(".")[-1]
                self.assertIn(word, ("property", "classmethod", "staticmethod", "setter"), place)

    def test_what_is_iterated_at_once(self):
        for path, tree in TREES.items():
            above = parents(tree)
            for node in ast.walk(tree):
                if isinstance(node, ast.Call) and isinstance(node.func, ast.Name) and node.func.id in LAZY:
                    self.check_eater(above[node], f"{path.name} {node.lineno}")

    def check_eater(self, parent, place):
        self.assertNotIsInstance(parent, (ast.Return, ast.List, ast.Tuple, ast.Dict, ast.keyword), place)
        if isinstance(parent, ast.Call) and isinstance(parent.func, ast.Name):
            self.assertIn(parent.func.id, EATERS, place)

    def test_tests_of_generator_expressions_take_a_list(self):
        # L7: the package has classes with __eq__.
        for path, tree in TREES.items():
            above = parents(tree)
            for node in ast.walk(tree):
                if isinstance(node, ast.GeneratorExp):
                    word = ast.unparse(above[node].func) if isinstance(above[node], ast.Call) else ""
                    self.assertTrue(word in ("list", "tuple", "dict") or word.endswith(".join"),
                                    f"{path.name} {node.lineno}")

    def test_sets_are_not_iterated_or_returned(self):
        for path, tree in TREES.items():
            above = parents(tree)
            for node in ast.walk(tree):
                called = isinstance(node, ast.Call) and isinstance(node.func, ast.Name) and node.func.id == "set"
                if called or isinstance(node, (ast.SetComp, ast.Set)):
                    barred = (ast.For, ast.comprehension, ast.Return, ast.List, ast.Tuple, ast.Dict)
                    self.assertNotIsInstance(above[node], barred, f"{path.name} {node.lineno}")

    def test_nothing_is_sorted_in_place(self):
        # L25: the package has classes with __eq__.
        for place, node in self.each(ast.Attribute):
            self.assertNotEqual(node.attr, "sort", place)


if __name__ == "__main__":
    unittest.main()
