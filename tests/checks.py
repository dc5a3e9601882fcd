"""Checks that several tests use."""

import unittest

from farscale.errors import FarscaleError, NameMissing


class Checks(unittest.TestCase):

    def check_raises(self, error, told, call, *arguments):
        """The call raises this very error with these attributes."""
        with self.subTest(arguments), self.assertRaises((FarscaleError, NameMissing)) as caught:
            call(*arguments)
        self.assertIs(type(caught.exception), error)
        self.assertEqual(vars(caught.exception), told)

    def check_same(self, first, second):
        self.assertIs(first == second, True)
        self.assertIs(second == first, True)
        self.assertIs(first != second, False)

    def check_other(self, first, second):
        self.assertIs(first == second, False)
        self.assertIs(second == first, False)
        self.assertIs(first != second, True)
