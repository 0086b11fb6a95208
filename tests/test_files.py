"""Checks of the package's files that need no running: their sizes, characters, imports and builtins."""

import ast
import pathlib
import unittest

PACKAGE = pathlib.Path(__file__).resolve().parent.parent / "staytallies"
FILES = sorted(path for path in PACKAGE.rglob("*") if path.is_file() and path.suffix != ".pyc")
LIBRARY = ("heapq", "math", "itertools", "collections")
INTERFACE = {
    "errors": (
        "TallyError", "BadStands", "BadSteps", "BadEnds", "BadMachine", "BadStand", "BadRow", "BadLetter", "BadNumber",
        "BadBounds", "BadSet", "TooMany", "InvalidText",
    ),
    "machines": ("Machine", "is_row", "ends_well", "behind", "reached"),
    "extremes": ("greatest_at", "least_at", "greatest_row", "least_row", "bounds", "end_bounds"),
    "bounding": ("stays", "right_bar", "right_paper", "bar", "paper", "first_leaving"),
    "energy": ("needed", "credit", "lasting", "right_lasting"),
    "means": ("greatest_mean", "least_mean", "mean_paper", "right_mean"),
    "pairs": ("difference", "in_step", "first_apart"),
}


class Files(unittest.TestCase):
    def trees(self):
        for path in FILES:
            yield path.name, ast.parse(path.read_text(encoding="ascii"))

    def test_only_python_files(self):
        self.assertIn("__init__.py", [path.name for path in FILES])
        self.assertEqual([path.name for path in FILES if path.suffix != ".py"], [])

    def test_sizes_and_characters(self):
        for path in FILES:
            lines = path.read_text(encoding="ascii").split("\n")
            self.assertLess(len(lines), 400, path.name)
            for line in lines:
                self.assertLessEqual(len(line), 120, path.name)
                self.assertEqual(line, line.rstrip())
                self.assertTrue(all(" " <= letter <= "~" for letter in line), path.name)

    def test_functions_are_small(self):
        for name, tree in self.trees():
            for node in ast.walk(tree):
                if isinstance(node, ast.FunctionDef):
                    self.assertLessEqual(node.end_lineno - node.lineno, 39, f"{name}: {node.name}")

    def test_imports(self):
        for name, tree in self.trees():
            for node in ast.walk(tree):
                self.assertNotIsInstance(node, ast.Import, name)
                if isinstance(node, ast.ImportFrom):
                    self.assertEqual(node.level, 0)
                    self.assertTrue(node.module.startswith("staytallies.") or node.module in LIBRARY, name)

    def test_no_clock_chance_files_or_floats(self):
        barred = {"open", "input", "print", "eval", "exec", "float", "hash", "id", "round", "globals", "vars"}
        for name, tree in self.trees():
            for node in ast.walk(tree):
                if isinstance(node, ast.Name):
                    self.assertNotIn(node.id, barred, name)
                if isinstance(node, ast.Constant):
                    self.assertNotIsInstance(node.value, (float, complex), name)
                self.assertNotIsInstance(node, (ast.Div, ast.Global), name)

    def test_the_interface_is_defined_where_it_is_listed(self):
        for name, wanted in INTERFACE.items():
            tree = ast.parse((PACKAGE / f"{name}.py").read_text(encoding="ascii"))
            defined = [node.name for node in tree.body if isinstance(node, (ast.FunctionDef, ast.ClassDef))]
            for part in wanted:
                self.assertEqual(defined.count(part), 1, f"{name}: {part}")


if __name__ == "__main__":
    unittest.main()
