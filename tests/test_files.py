"""Checks of the package's files that need no running: sizes, characters, imports, names, and parts of the language."""

import ast
import builtins
import pathlib
import unittest

PACKAGE = pathlib.Path(__file__).resolve().parent.parent / "staytallies"
FILES = sorted(path for path in PACKAGE.rglob("*") if path.is_file() and path.suffix != ".pyc")
LIBRARY = ("heapq", "math", "itertools", "collections")
BUILTINS = set(
    "len range enumerate zip min max sum abs sorted reversed int str bool list tuple dict set isinstance ord repr any all"
    " divmod property ValueError".split()
)
METHODS = set(
    "append copy count endswith extend find get index insert isdigit items join keys pop remove replace reverse"
    " setdefault split startswith strip update values isascii removeprefix removesuffix add discard".split()
)
BARRED = (
    ast.AsyncFunctionDef, ast.AsyncFor, ast.AsyncWith, ast.Await, ast.Global, ast.Nonlocal, ast.Import, ast.Div,
    ast.MatMult, ast.Lambda, ast.GeneratorExp, ast.Yield, ast.YieldFrom, ast.Delete, ast.Try, ast.With, ast.Match,
    ast.Assert, ast.AnnAssign, ast.NamedExpr,
)
INTERFACE = {
    "errors": (
        "TallyError", "BadStands", "BadSteps", "BadEnds", "BadMachine", "BadStand", "BadRow", "BadLetter", "BadNumber",
        "BadBounds", "BadSet", "TooMany", "InvalidText",
    ),
    "machines": ("Machine", "is_row", "ends_well", "behind", "reached"),
    "extremes": ("greatest_at", "least_at", "greatest_row", "least_row", "bounds", "end_bounds"),
    "bounding": ("stays", "right_bar", "right_paper", "bar", "paper", "first_leaving"),
    "energy": ("needed", "credit", "lasting", "right_lasting"),
    "means": ("greatest_mean", "least_mean", "mean_paper", "right_mean"),
    "pairs": ("difference", "in_step", "first_apart"),
    "counts": ("tallies", "count", "count_staying"),
    "mends": ("mends", "mended"),
    "meters": ("Meter",),
    "texts": ("write", "read"),
}


class Files(unittest.TestCase):
    def trees(self):
        for path in FILES:
            yield path.name, ast.parse(path.read_text(encoding="ascii"))

    def test_only_python_files(self):
        self.assertIn("__init__.py", [path.name for path in FILES])
        self.assertEqual([path.name for path in FILES if path.suffix != ".py"], [])

    def test_sizes_and_characters(self):
        for path in FILES:
            lines = path.read_text(encoding="ascii").split("\n")
            self.assertLess(len(lines), 400, path.name)
            for line in lines:
                self.assertLessEqual(len(line), 120, path.name)
                self.assertEqual(line, line.rstrip())
                self.assertTrue(all(" " <= letter <= "~" for letter in line), path.name)

    def test_functions_are_small(self):
        for name, tree in self.trees():
            for node in ast.walk(tree):
                if isinstance(node, ast.FunctionDef):
                    self.assertLessEqual(node.end_lineno - node.lineno, 39, f"{name}: {node.name}")

    def test_imports(self):
        for name, tree in self.trees():
            for node in ast.walk(tree):
                self.assertNotIsInstance(node, ast.Import, name)
                if isinstance(node, ast.ImportFrom):
                    self.assertEqual(node.level, 0)
                    self.assertTrue(node.module.startswith("staytallies.") or node.module in LIBRARY, name)

    def test_no_clock_chance_files_or_floats(self):
        for name, tree in self.trees():
            for node in ast.walk(tree):
                if isinstance(node, ast.Name) and hasattr(builtins, node.id):
                    self.assertIn(node.id, BUILTINS, name)
                if isinstance(node, ast.Constant):
                    self.assertNotIsInstance(node.value, (float, complex, bytes), name)
                self.assertNotIsInstance(node, BARRED, name)

    def test_strings(self):
        for name, tree in self.trees():
            for node in ast.walk(tree):
                if isinstance(node, ast.Constant) and isinstance(node.value, str):
                    self.assertNotIn("%", node.value, name)
                    self.assertNotIn("__", node.value, name)

    def test_decorators_are_properties(self):
        for name, tree in self.trees():
            for node in ast.walk(tree):
                if isinstance(node, (ast.FunctionDef, ast.ClassDef)):
                    self.assertIn([ast.unparse(part) for part in node.decorator_list], ([], ["property"]), name)

    def test_called_methods(self):
        own = {
            node.name for _, tree in self.trees() for part in tree.body if isinstance(part, ast.ClassDef)
            for node in part.body if isinstance(node, ast.FunctionDef)
        }
        for name, tree in self.trees():
            for node in ast.walk(tree):
                if isinstance(node, ast.Call) and isinstance(node.func, ast.Attribute):
                    self.assertIn(node.func.attr, METHODS | own, name)

    def test_local_names_are_no_imports_classes_or_builtins(self):
        for name, tree in self.trees():
            taken = {part.name for part in tree.body if isinstance(part, ast.ClassDef)}
            for node in tree.body:
                if isinstance(node, ast.ImportFrom):
                    taken |= {part.name for part in node.names}
            for node in ast.walk(tree):
                if isinstance(node, ast.Name) and isinstance(node.ctx, ast.Store):
                    self.assertNotIn(node.id, taken, name)
                    self.assertFalse(hasattr(builtins, node.id), f"{name}: {node.id}")
                if isinstance(node, ast.arg):
                    self.assertNotIn(node.arg, taken, name)
                    self.assertFalse(hasattr(builtins, node.arg), f"{name}: {node.arg}")

    def test_imported_names_are_used(self):
        for name, tree in self.trees():
            used = {node.id for node in ast.walk(tree) if isinstance(node, ast.Name)}
            for node in tree.body:
                if isinstance(node, ast.ImportFrom):
                    for part in node.names:
                        self.assertIn(part.name, used, name)

    def test_the_interface_is_defined_where_it_is_listed(self):
        for name, wanted in INTERFACE.items():
            tree = ast.parse((PACKAGE / f"{name}.py").read_text(encoding="ascii"))
            defined = [node.name for node in tree.body if isinstance(node, (ast.FunctionDef, ast.ClassDef))]
            for part in wanted:
                self.assertEqual(defined.count(part), 1, f"{name}: {part}")


if __name__ == "__main__":
    unittest.main()
