"""The errors of the interface: their bases and their attributes."""

import unittest

from farscale import errors

COLUMN = ("0", "1")
ROW = ("1", "0")

UNDER_FARSCALE_ERROR = {
    "BadScale": {}, "BadName": {"name": "A"}, "TwiceTold": {"name": "a"}, "BadTable": {},
    "NotSame": {"x": "a"}, "NotThrough": {"x": "a", "y": "b", "z": "c"}, "BadPath": {"number": 3},
    "MixedScales": {}, "MixedSpaces": {}, "BadImages": {}, "Stretched": {"x": "a", "y": "b"},
    "NotAhead": {"x": "a", "y": "b", "z": "c"}, "NotBehind": {"x": "a", "y": "b", "z": "c"},
    "TooMany": {}, "NotClosed": {}, "NotKept": {}, "BarePair": {"column": COLUMN, "row": ROW},
    "NotLoose": {}, "NotFitting": {}, "Clash": {"name": "cap", "path": ["s", "t"]}, "NothingDone": {},
}
UNDER_NAME_MISSING = {
    "UnknownGrade": {"name": "x"}, "UnknownPoint": {"name": "p"}, "NotTold": {"name": "s"},
}


class ErrorsTest(unittest.TestCase):

    def test_the_two_bases(self):
        self.assertEqual(errors.FarscaleError.__bases__, (ValueError,))
        self.assertEqual(errors.NameMissing.__bases__, (LookupError,))

    def test_each_error_stands_right_under_its_base(self):
        for base, told in ((errors.FarscaleError, UNDER_FARSCALE_ERROR),
                           (errors.NameMissing, UNDER_NAME_MISSING)):
            for name in told:
                with self.subTest(name):
                    self.assertEqual(getattr(errors, name).__bases__, (base,))
                    self.assertEqual(getattr(errors, name).__module__, "farscale.errors")

    def test_there_are_no_others(self):
        found = {name for name, value in vars(errors).items() if isinstance(value, type)}
        expected = {"FarscaleError", "NameMissing", *UNDER_FARSCALE_ERROR, *UNDER_NAME_MISSING}
        self.assertEqual(found, expected)

    def test_arguments_are_attributes(self):
        for name, told in {**UNDER_FARSCALE_ERROR, **UNDER_NAME_MISSING}.items():
            with self.subTest(name):
                with self.assertRaises(getattr(errors, name)) as caught:
                    raise getattr(errors, name)(*told.values())
                self.assertEqual(vars(caught.exception), told)
                self.assertIsInstance(str(caught.exception), str)

    def test_clash_keeps_no_list_of_the_caller(self):
        path = ["s", "t"]
        error = errors.Clash("cap", path)
        path.append("u")
        self.assertEqual(error.path, ["s", "t"])
        self.assertFalse(any(kept is path for kept in [*error.args, *vars(error).values()]))


if __name__ == "__main__":
    unittest.main()
