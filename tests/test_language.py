"""Rules of the language that can be seen by machine: sizes, characters, imports, names, and where things are defined."""

import ast
import builtins
import pathlib
import unittest

FOLDER = pathlib.Path(__file__).resolve().parent.parent / "learnprices"
LIBRARY = {"heapq": ("heappush", "heappop", "heapify", "heapreplace", "heappushpop"),
           "math": ("gcd", "lcm", "isqrt", "comb", "perm", "factorial"),
           "itertools": ("product", "combinations", "permutations", "chain", "accumulate", "pairwise", "islice",
                         "zip_longest"),
           "collections": ("defaultdict",)}
BUILTINS = set("""len range enumerate zip min max sum abs sorted reversed int str bool bytes list tuple dict set frozenset
isinstance ord repr any all divmod pow getattr hasattr setattr iter next map super property staticmethod classmethod
Exception ValueError TypeError KeyError IndexError LookupError ZeroDivisionError ArithmeticError OverflowError
RuntimeError NotImplementedError AttributeError StopIteration NotImplemented object""".split())
INTERFACE = {
    "errors.py": ("PriceError", "BadSeller", "BadBuyer", "BadPrices", "BadCount", "TooMany", "BadDealing", "NoBuyer",
                  "BadDeed", "BadText"),
    "markets.py": ("day_of",),
    "days.py": ("days", "after", "period", "settles"),
    "steady.py": ("stays", "steady", "pulls"),
    "dealing.py": ("best", "gain_of", "least_prices", "greatest_prices", "supports"),
    "fairs.py": ("Fair", "again"),
    "notes.py": ("written", "read"),
}
METHODS = ("__init__", "begin", "come", "leave", "mark", "day", "prices_now", "market", "takings", "deeds")


def files():
    return sorted(path for path in FOLDER.rglob("*") if path.is_file() and "__pycache__" not in path.parts)


def trees():
    return [(path, ast.parse(path.read_text(encoding="ascii"))) for path in files()]


class LanguageTest(unittest.TestCase):
    def test_the_folder_has_python_files_only(self):
        self.assertIn(FOLDER / "__init__.py", files())
        self.assertEqual([path for path in files() if path.suffix != ".py"], [])

    def test_sizes_and_characters(self):
        for path in files():
            text = path.read_text(encoding="ascii")
            rows = text.split("\n")
            self.assertLessEqual(len(rows) - 1, 399, path)
            self.assertLessEqual(max(len(row) for row in rows), 120, path)
            self.assertTrue(all(" " <= sign <= "~" or sign == "\n" for sign in text), path)

    def test_functions_have_at_most_forty_lines(self):
        for path, tree in trees():
            for node in ast.walk(tree):
                if isinstance(node, ast.FunctionDef):
                    self.assertLessEqual(node.end_lineno - node.lineno + 1, 40, (path, node.name))

    def test_imports(self):
        for path, tree in trees():
            for node in ast.walk(tree):
                self.assertNotIsInstance(node, (ast.Import, ast.Global, ast.AsyncFunctionDef), path)
                if isinstance(node, ast.ImportFrom):
                    self.assertEqual(node.level, 0, path)
                    names = [name.name for name in node.names]
                    if not node.module.startswith("learnprices."):
                        self.assertLessEqual(set(names), set(LIBRARY.get(node.module, ())), path)

    def test_builtins(self):
        for path, tree in trees():
            for node in ast.walk(tree):
                if isinstance(node, ast.Name) and hasattr(builtins, node.id):
                    self.assertIn(node.id, BUILTINS, path)
                    self.assertIsInstance(node.ctx, ast.Load, path)
                if isinstance(node, ast.arg):
                    self.assertFalse(hasattr(builtins, node.arg), (path, node.arg))

    def test_no_floats(self):
        for path, tree in trees():
            for node in ast.walk(tree):
                self.assertNotIsInstance(node, ast.Div, path)
                self.assertFalse(isinstance(node, ast.Constant) and isinstance(node.value, (float, complex)), path)

    def test_the_interface_is_defined_where_it_is_listed(self):
        for name, listed in INTERFACE.items():
            tree = ast.parse((FOLDER / name).read_text(encoding="ascii"))
            defined = [node.name for node in tree.body if isinstance(node, (ast.FunctionDef, ast.ClassDef))]
            self.assertLessEqual(set(listed), set(defined), name)
            self.assertEqual(len(defined), len(set(defined)), name)

    def test_the_methods_of_a_fair_are_defined_in_its_class(self):
        tree = ast.parse((FOLDER / "fairs.py").read_text(encoding="ascii"))
        fair, = [node for node in tree.body if isinstance(node, ast.ClassDef)]
        self.assertEqual([node.name for node in fair.body if isinstance(node, ast.FunctionDef)], list(METHODS))

    def test_no_local_name_is_that_of_an_import_or_a_class(self):
        for path, tree in trees():
            barred = {name.name for node in tree.body if isinstance(node, ast.ImportFrom) for name in node.names}
            barred |= {node.name for node in tree.body if isinstance(node, ast.ClassDef)}
            for node in ast.walk(tree):
                if isinstance(node, ast.Name) and isinstance(node.ctx, ast.Store):
                    self.assertNotIn(node.id, barred, path)
                if isinstance(node, ast.arg):
                    self.assertNotIn(node.arg, barred, path)
                if isinstance(node, ast.MatchAs):
                    self.assertNotIn(node.name, barred, path)

    def test_no_name_is_a_method_and_an_attribute(self):
        for path, tree in trees():
            for box in [node for node in tree.body if isinstance(node, ast.ClassDef)]:
                methods = {node.name for node in box.body if isinstance(node, ast.FunctionDef)}
                stored = {node.attr for node in ast.walk(box)
                          if isinstance(node, ast.Attribute) and isinstance(node.ctx, ast.Store)}
                self.assertEqual(methods & stored, set(), (path, box.name))
