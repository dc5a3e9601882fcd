"""The form of the package: where the interface stands, and the plain rules of its language."""

import ast
import pathlib
import unittest

from farscale import families, faults, scales

FOLDER = pathlib.Path(scales.__file__).parent
SCALE_METHODS = ("grades", "join", "then", "meet", "under", "over", "joined", "within", "__eq__", "__contains__")
LIBRARY = {"heapq", "math", "itertools", "collections"}


class Interface(unittest.TestCase):

    def test_scale_has_its_methods_itself(self):
        for name in SCALE_METHODS:
            self.assertIn(name, vars(scales.Scale))

    def test_classes_stand_in_their_files(self):
        for module, names in ((scales, ("Scale", "TableScale")),
                              (families, ("ChainScale", "DistanceScale", "StepScale", "PairScale", "TurnedScale"))):
            for name in names:
                made = getattr(module, name)
                self.assertEqual(made.__module__, module.__name__)
                self.assertTrue(issubclass(made, scales.Scale))
                self.assertIn("__init__", vars(made))

    def test_first_fault_stands_in_its_file(self):
        self.assertEqual(faults.first_fault.__module__, "farscale.faults")

    def test_none_and_unit_of_a_table_go_by_keyword(self):
        with self.assertRaises(TypeError):
            scales.TableScale(["g"], [["g"]], [["g"]], "g", "g")


class Language(unittest.TestCase):

    def files(self):
        return [path for path in FOLDER.rglob("*") if path.is_file() and "__pycache__" not in path.parts]

    def test_only_plain_files(self):
        self.assertIn(FOLDER / "__init__.py", self.files())
        for path in self.files():
            self.assertRegex(path.name, r"^[a-z0-9_]+\.py$")

    def test_sizes_and_characters(self):
        for path in self.files():
            text = path.read_text()
            lines = text.splitlines()
            self.assertLessEqual(len(lines), 399, path)
            self.assertTrue(all(" " <= mark <= "~" or mark == "\n" for mark in text), path)
            self.assertLessEqual(max(map(len, lines), default=0), 120, path)
            for node in ast.walk(ast.parse(text)):
                if isinstance(node, ast.FunctionDef):
                    self.assertLessEqual(node.end_lineno - node.lineno + 1, 40, (path, node.name))

    def test_imports(self):
        for path in self.files():
            for node in ast.walk(ast.parse(path.read_text())):
                self.assertNotIsInstance(node, ast.Import)
                if isinstance(node, ast.ImportFrom):
                    self.assertEqual(node.level, 0)
                    self.assertTrue(node.module.startswith("farscale.") or node.module in LIBRARY, node.module)
                    self.assertNotIn("*", [name.name for name in node.names])


if __name__ == "__main__":
    unittest.main()
