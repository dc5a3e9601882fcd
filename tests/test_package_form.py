"""The form of the package: where the interface stands, and the plain rules of its language."""

import ast
import inspect
import pathlib
import unittest

from farscale import families, faults, maps, scales, searches, spaces, told

FOLDER = pathlib.Path(scales.__file__).parent
METHODS = {
    scales.Scale: ("grades", "join", "then", "meet", "under", "over", "joined", "within", "__eq__", "__contains__"),
    spaces.Space: ("points", "rows", "near", "alike", "__contains__", "__len__", "__eq__"),
    maps.SpaceMap: ("__call__", "images", "keeps", "__rshift__", "__eq__", "same", "inclusion"),
}
FUNCTIONS = {
    faults.first_fault: ("farscale.faults", ["scale"]),
    spaces.turned: ("farscale.spaces", ["space"]),
    spaces.part: ("farscale.spaces", ["space", "points"]),
    told.told_space: ("farscale.told", ["scale", "points", "steps"]),
    told.paths_of: ("farscale.told", ["scale", "points", "steps", "x", "y"]),
    told.judge_paths: ("farscale.told", ["scale", "points", "steps", "x", "y", "paths"]),
    searches.all_maps: ("farscale.searches", ["source", "target"]),
    searches.renaming: ("farscale.searches", ["first", "second"]),
    spaces.Space: ("farscale.spaces", ["scale", "points", "rows"]),
    maps.SpaceMap: ("farscale.maps", ["source", "target", "images"]),
}
LIBRARY = {"heapq", "math", "itertools", "collections"}


class Interface(unittest.TestCase):

    def test_classes_have_their_methods_themselves(self):
        for made, names in METHODS.items():
            for name in names:
                self.assertIn(name, vars(made))

    def test_class_methods_of_maps(self):
        for name in ("same", "inclusion"):
            self.assertIsInstance(vars(maps.SpaceMap)[name], classmethod)

    def test_files_and_arguments(self):
        for told_as, (file, arguments) in FUNCTIONS.items():
            self.assertEqual(told_as.__module__, file)
            self.assertEqual(list(inspect.signature(told_as).parameters), arguments)

    def test_classes_stand_in_their_files(self):
        for module, names in ((scales, ("Scale", "TableScale")),
                              (families, ("ChainScale", "DistanceScale", "StepScale", "PairScale", "TurnedScale"))):
            for name in names:
                made = getattr(module, name)
                self.assertEqual(made.__module__, module.__name__)
                self.assertTrue(issubclass(made, scales.Scale))
                self.assertIn("__init__", vars(made))

    def test_none_and_unit_of_a_table_go_by_keyword(self):
        with self.assertRaises(TypeError):
            scales.TableScale(["g"], [["g"]], [["g"]], "g", "g")


class Language(unittest.TestCase):

    def files(self):
        return [path for path in FOLDER.rglob("*") if path.is_file() and "__pycache__" not in path.parts]

    def test_only_plain_files(self):
        self.assertIn(FOLDER / "__init__.py", self.files())
        for path in self.files():
            self.assertRegex(path.name, r"^[a-z0-9_]+\.py$")

    def test_sizes_and_characters(self):
        for path in self.files():
            text = path.read_text()
            lines = text.splitlines()
            self.assertLessEqual(len(lines), 399, path)
            self.assertTrue(all(" " <= mark <= "~" or mark == "\n" for mark in text), path)
            self.assertLessEqual(max(map(len, lines), default=0), 120, path)
            for node in ast.walk(ast.parse(text)):
                if isinstance(node, ast.FunctionDef):
                    self.assertLessEqual(node.end_lineno - node.lineno + 1, 40, (path, node.name))

    def test_imports(self):
        for path in self.files():
            for node in ast.walk(ast.parse(path.read_text())):
                self.assertNotIsInstance(node, ast.Import)
                if isinstance(node, ast.ImportFrom):
                    self.assertEqual(node.level, 0)
                    self.assertTrue(node.module.startswith("farscale.") or node.module in LIBRARY, node.module)
                    self.assertNotIn("*", [name.name for name in node.names])


if __name__ == "__main__":
    unittest.main()
