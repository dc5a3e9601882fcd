"""The form of the package: where the interface stands, and the plain rules of its language."""

import ast
import inspect
import pathlib
import unittest

from farscale import (books, changes, families, faults, gluing, goingon, hulls, maps, pairs, quotients, scales,
                      searches, spaces, tables, told)

FOLDER = pathlib.Path(scales.__file__).parent
METHODS = {
    scales.Scale: ("grades", "join", "then", "meet", "under", "over", "joined", "within", "__eq__", "__contains__"),
    spaces.Space: ("points", "rows", "near", "alike", "__contains__", "__len__", "__eq__"),
    maps.SpaceMap: ("__call__", "images", "keeps", "__rshift__", "__eq__", "same", "inclusion"),
    tables.Table: ("at", "rows", "within", "__rshift__", "__or__", "__and__", "__eq__", "own"),
    hulls.Hull: ("pair_of", "point_of"),
    changes.ScaleMap: ("image", "fault", "loose", "__rshift__", "__eq__", "same"),
    gluing.Glued: ("fit", ),
    books.Book: ("points", "step", "cap", "drop", "undo", "steps", "caps", "__contains__", "__len__", "shown", "reach",
                 "why", "slack", "attempt"),
}
FUNCTIONS = {
    faults.first_fault: ("farscale.faults", ["scale"]),
    spaces.turned: ("farscale.spaces", ["space"]),
    spaces.part: ("farscale.spaces", ["space", "points"]),
    told.told_space: ("farscale.told", ["scale", "points", "steps"]),
    told.paths_of: ("farscale.told", ["scale", "points", "steps", "x", "y"]),
    told.judge_paths: ("farscale.told", ["scale", "points", "steps", "x", "y", "paths"]),
    searches.all_maps: ("farscale.searches", ["source", "target"]),
    searches.renaming: ("farscale.searches", ["first", "second"]),
    spaces.Space: ("farscale.spaces", ["scale", "points", "rows"]),
    maps.SpaceMap: ("farscale.maps", ["source", "target", "images"]),
    tables.Table: ("farscale.tables", ["source", "target", "rows"]),
    tables.forward: ("farscale.tables", ["m"]),
    tables.backward: ("farscale.tables", ["m"]),
    quotients.under: ("farscale.quotients", ["first", "second"]),
    quotients.over: ("farscale.quotients", ["first", "second"]),
    quotients.partner: ("farscale.quotients", ["table"]),
    quotients.partnerless: ("farscale.quotients", ["table"]),
    pairs.closed_pairs: ("farscale.pairs", ["space"]),
    pairs.closure: ("farscale.pairs", ["space", "grades"]),
    pairs.bare_pair: ("farscale.pairs", ["space"]),
    pairs.unsettled: ("farscale.pairs", ["space"]),
    pairs.widened: ("farscale.pairs", ["space", "name", "column", "row"]),
    hulls.Hull: ("farscale.hulls", ["space"]),
    goingon.least_way: ("farscale.goingon", ["hull", "m", "space"]),
    goingon.greatest_way: ("farscale.goingon", ["hull", "m", "space"]),
    goingon.laid_into: ("farscale.goingon", ["hull", "m"]),
    changes.ScaleMap: ("farscale.changes", ["source", "target", "images"]),
    changes.carried: ("farscale.changes", ["m", "space"]),
    # The second argument is called map in the document; a parameter may not have the name of a builtin.
    changes.carried_map: ("farscale.changes", ["m", "moved"]),
    changes.carried_table: ("farscale.changes", ["m", "table"]),
    gluing.Glued: ("farscale.gluing", ["m", "n"]),
    books.Book: ("farscale.books", ["scale", "points"]),
}
LIBRARY = {"heapq", "math", "itertools", "collections"}


class Interface(unittest.TestCase):

    def test_classes_have_their_methods_themselves(self):
        for made, names in METHODS.items():
            for name in names:
                self.assertIn(name, vars(made))

    def test_class_methods(self):
        for made, name in ((maps.SpaceMap, "same"), (maps.SpaceMap, "inclusion"), (tables.Table, "own"),
                           (changes.ScaleMap, "same")):
            self.assertIsInstance(vars(made)[name], classmethod)

    def test_files_and_arguments(self):
        for told_as, (file, arguments) in FUNCTIONS.items():
            self.assertEqual(told_as.__module__, file)
            self.assertEqual(list(inspect.signature(told_as).parameters), arguments)

    def test_classes_stand_in_their_files(self):
        for module, names in ((scales, ("Scale", "TableScale")),
                              (families, ("ChainScale", "DistanceScale", "StepScale", "PairScale", "TurnedScale"))):
            for name in names:
                made = getattr(module, name)
                self.assertEqual(made.__module__, module.__name__)
                self.assertTrue(issubclass(made, scales.Scale))
                self.assertIn("__init__", vars(made))

    def test_none_and_unit_of_a_table_go_by_keyword(self):
        with self.assertRaises(TypeError):
            scales.TableScale(["g"], [["g"]], [["g"]], "g", "g")


class Language(unittest.TestCase):

    def files(self):
        return [path for path in FOLDER.rglob("*") if path.is_file() and "__pycache__" not in path.parts]

    def test_only_plain_files(self):
        self.assertIn(FOLDER / "__init__.py", self.files())
        for path in self.files():
            self.assertRegex(path.name, r"^[a-z0-9_]+\.py$")

    def test_sizes_and_characters(self):
        for path in self.files():
            text = path.read_text()
            lines = text.splitlines()
            self.assertLessEqual(len(lines), 399, path)
            self.assertTrue(all(" " <= mark <= "~" or mark == "\n" for mark in text), path)
            self.assertLessEqual(max(map(len, lines), default=0), 120, path)
            for node in ast.walk(ast.parse(text)):
                if isinstance(node, ast.FunctionDef):
                    self.assertLessEqual(node.end_lineno - node.lineno + 1, 40, (path, node.name))

    def test_imports(self):
        for path in self.files():
            for node in ast.walk(ast.parse(path.read_text())):
                self.assertNotIsInstance(node, ast.Import)
                if isinstance(node, ast.ImportFrom):
                    self.assertEqual(node.level, 0)
                    self.assertTrue(node.module.startswith("farscale.") or node.module in LIBRARY, node.module)
                    self.assertNotIn("*", [name.name for name in node.names])


if __name__ == "__main__":
    unittest.main()
