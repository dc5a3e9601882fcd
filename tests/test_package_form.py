"""The form of the package: where the interface stands, and the plain rules of its language."""

import ast
import inspect
import pathlib
import unittest

from farscale import (books, changes, families, faults, gluing, goingon, hulls, maps, pairs, quotients, scales,
                      searches, spaces, tables, told)
from tests.operator_calls import unclear_calls

FOLDER = pathlib.Path(scales.__file__).parent
METHODS = {
    scales.Scale: ("grades", "join", "then", "meet", "under", "over", "joined", "within", "__eq__", "__contains__"),
    spaces.Space: ("points", "rows", "near", "alike", "__contains__", "__len__", "__eq__"),
    maps.SpaceMap: ("__call__", "images", "keeps", "__rshift__", "__eq__", "same", "inclusion"),
    tables.Table: ("at", "rows", "within", "__rshift__", "__or__", "__and__", "__eq__", "own"),
    hulls.Hull: ("pair_of", "point_of"),
    changes.ScaleMap: ("image", "fault", "loose", "__rshift__", "__eq__", "same"),
    gluing.Glued: ("fit", ),
    books.Book: ("points", "step", "cap", "drop", "undo", "steps", "caps", "__contains__", "__len__", "shown", "reach",
                 "why", "slack", "attempt"),
}
FUNCTIONS = {
    faults.first_fault: ("farscale.faults", ["scale"]),
    spaces.turned: ("farscale.spaces", ["space"]),
    spaces.part: ("farscale.spaces", ["space", "points"]),
    told.told_space: ("farscale.told", ["scale", "points", "steps"]),
    told.paths_of: ("farscale.told", ["scale", "points", "steps", "x", "y"]),
    told.judge_paths: ("farscale.told", ["scale", "points", "steps", "x", "y", "paths"]),
    searches.all_maps: ("farscale.searches", ["source", "target"]),
    searches.renaming: ("farscale.searches", ["first", "second"]),
    spaces.Space: ("farscale.spaces", ["scale", "points", "rows"]),
    maps.SpaceMap: ("farscale.maps", ["source", "target", "images"]),
    tables.Table: ("farscale.tables", ["source", "target", "rows"]),
    tables.forward: ("farscale.tables", ["m"]),
    tables.backward: ("farscale.tables", ["m"]),
    quotients.under: ("farscale.quotients", ["first", "second"]),
    quotients.over: ("farscale.quotients", ["first", "second"]),
    quotients.partner: ("farscale.quotients", ["table"]),
    quotients.partnerless: ("farscale.quotients", ["table"]),
    pairs.closed_pairs: ("farscale.pairs", ["space"]),
    pairs.closure: ("farscale.pairs", ["space", "grades"]),
    pairs.bare_pair: ("farscale.pairs", ["space"]),
    pairs.unsettled: ("farscale.pairs", ["space"]),
    pairs.widened: ("farscale.pairs", ["space", "name", "column", "row"]),
    hulls.Hull: ("farscale.hulls", ["space"]),
    goingon.least_way: ("farscale.goingon", ["hull", "m", "space"]),
    goingon.greatest_way: ("farscale.goingon", ["hull", "m", "space"]),
    goingon.laid_into: ("farscale.goingon", ["hull", "m"]),
    changes.ScaleMap: ("farscale.changes", ["source", "target", "images"]),
    changes.carried: ("farscale.changes", ["m", "space"]),
    # The second argument is called map in the document; a parameter may not have the name of a builtin.
    changes.carried_map: ("farscale.changes", ["m", "moved"]),
    changes.carried_table: ("farscale.changes", ["m", "table"]),
    gluing.Glued: ("farscale.gluing", ["m", "n"]),
    books.Book: ("farscale.books", ["scale", "points"]),
}
LIBRARY = {"heapq", "math", "itertools", "collections"}


class Interface(unittest.TestCase):

    def test_classes_have_their_methods_themselves(self):
        for made, names in METHODS.items():
            for name in names:
                self.assertIn(name, vars(made))

    def test_class_methods(self):
        for made, name in ((maps.SpaceMap, "same"), (maps.SpaceMap, "inclusion"), (tables.Table, "own"),
                           (changes.ScaleMap, "same")):
            self.assertIsInstance(vars(made)[name], classmethod)

    def test_files_and_arguments(self):
        for told_as, (file, arguments) in FUNCTIONS.items():
            self.assertEqual(told_as.__module__, file)
            self.assertEqual(list(inspect.signature(told_as).parameters), arguments)

    def test_classes_stand_in_their_files(self):
        for module, names in ((scales, ("Scale", "TableScale")),
                              (families, ("ChainScale", "DistanceScale", "StepScale", "PairScale", "TurnedScale"))):
            for name in names:
                made = getattr(module, name)
                self.assertEqual(made.__module__, module.__name__)
                self.assertTrue(issubclass(made, scales.Scale))
                self.assertIn("__init__", vars(made))

    def test_none_and_unit_of_a_table_go_by_keyword(self):
        with self.assertRaises(TypeError):
            scales.TableScale(["g"], [["g"]], [["g"]], "g", "g")


class Language(unittest.TestCase):

    def files(self):
        return [path for path in FOLDER.rglob("*") if path.is_file() and "__pycache__" not in path.parts]

    def test_only_plain_files(self):
        self.assertIn(FOLDER / "__init__.py", self.files())
        for path in self.files():
            self.assertRegex(path.name, r"^[a-z0-9_]+\.py$")

    def test_sizes_and_characters(self):
        for path in self.files():
            text = path.read_text()
            lines = text.splitlines()
            self.assertLessEqual(len(lines), 399, path)
            self.assertTrue(all(" " <= mark <= "~" or mark == "\n" for mark in text), path)
            self.assertLessEqual(max(map(len, lines), default=0), 120, path)
            for node in ast.walk(ast.parse(text)):
                if isinstance(node, ast.FunctionDef):
                    self.assertLessEqual(node.end_lineno - node.lineno + 1, 40, (path, node.name))

    def test_imports(self):
        for path in self.files():
            for node in ast.walk(ast.parse(path.read_text())):
                self.assertNotIsInstance(node, ast.Import)
                if isinstance(node, ast.ImportFrom):
                    self.assertEqual(node.level, 0)
                    self.assertTrue(node.module.startswith("farscale.") or node.module in LIBRARY, node.module)
                    self.assertNotIn("*", [name.name for name in node.names])

    def test_operators_call_no_name_that_is_an_attribute_too(self):
        texts = {path.relative_to(FOLDER).as_posix(): path.read_text() for path in self.files()}
        self.assertEqual(unclear_calls(texts), [])


LINE = """
class Line:
    def __init__(self, rows):
        self.total = rows
"""


class UnclearCalls(unittest.TestCase):
    """What the test of calls in operators finds, in small packages of a class Bill beside the class Line."""

    def check_found(self, rows, bill, line=LINE):
        self.assertEqual(unclear_calls({"bill.py": bill, "line.py": line}), [("bill.py", row, "total") for row in rows])

    def test_in_operators(self):
        for name in ("__len__", "__contains__", "__eq__", "__rshift__", "__lt__", "__repr__"):
            with self.subTest(name):
                self.check_found([3], f"class Bill:\n def {name}(self, *told):\n  return self.total()\n"
                                 " def total(self):\n  return 0\n")

    def test_in_properties(self):
        self.check_found([4], "class Bill:\n @property\n def many(self):\n  return self.total()\n"
                         " def total(self):\n  return 0\n")

    def test_every_row_once(self):
        self.check_found([3, 5], "class Bill:\n def __len__(self):\n  return self.total() + self.total()\n"
                         " def __eq__(self, other):\n  return self.total() == 0\n def total(self):\n  return 0\n")

    def test_through_a_method(self):
        self.check_found([5], "class Bill:\n def __len__(self):\n  return self.many()\n"
                         " def many(self):\n  return self.total()\n def total(self):\n  return 0\n")

    def test_through_a_method_of_such_a_name(self):
        self.check_found([3, 5], "class Bill:\n def __len__(self):\n  return self.total()\n"
                         " def total(self):\n  return self.total()\n")

    def test_through_functions(self):
        self.check_found([5], "class Bill:\n def total(self):\n  return 0\n"
                         "def many(bill):\n return bill.total()\ndef more(bill):\n return sum(map(many, [bill]))\n",
                         LINE + "    def __len__(self):\n        return more(self)\n")

    def test_through_a_class_that_is_made(self):
        self.check_found([5], "class Bill:\n def total(self):\n  return 0\n"
                         " def __init__(self):\n  self.many = self.total()\nclass Long(Bill):\n pass\n"
                         "def made():\n return Long()\n", LINE + "    def __len__(self):\n        return made().many\n")

    def test_attributes_of_all_assignments(self):
        bill = "class Bill:\n def __len__(self):\n  return self.total()\n def total(self):\n  return 0\n"
        for statement in ("line.total = 1", "line.total: int = 1", "line.total += 1", "a, (line.total, b) = 1, (2, 3)",
                          "for line.total in (): pass"):
            with self.subTest(statement):
                self.check_found([3], bill, f"def told(line):\n {statement}\n")

    def test_elsewhere_such_names_may_be_called(self):
        self.check_found([], "class Bill:\n def __init__(self):\n  self.many = self.total()\n"
                         " def __call__(self):\n  return self.total()\n def more(self):\n  return self.total()\n"
                         " def __len__(self):\n  return len(self.many)\n def total(self):\n  return 0\n")

    def test_operators_may_read_such_names(self):
        self.check_found([], "class Bill:\n def total(self):\n  return self.total()\n",
                         LINE + "    def __len__(self):\n        return len(self.total)\n")

    def test_names_that_are_only_the_one_or_the_other(self):
        self.check_found([], "class Bill:\n def __len__(self):\n  return self.many() + self.total\n"
                         " def many(self):\n  return 0\n")

    def test_properties_are_no_methods(self):
        self.check_found([], "class Bill:\n @property\n def total(self):\n  return self.act\n"
                         " @total.setter\n def total(self, act):\n  self.act = act\n"
                         " def __len__(self):\n  return self.total()\n")


if __name__ == "__main__":
    unittest.main()
