"""Tests of the error classes (points 0.2, 1.5, 3.1, 12.2 and 17.4)."""

import unittest

from wholepackets.errors import (
    BuildError,
    ChangeError,
    CommandError,
    RuleError,
    SwitchError,
    TextError,
)

KINDS = (TextError, RuleError, ChangeError, BuildError, CommandError)


class ErrorsTest(unittest.TestCase):
    def test_attributes(self):
        self.assertEqual(TextError(3).line, 3)
        self.assertEqual(CommandError(17).line, 17)
        self.assertEqual(RuleError("parser").rule, "parser")
        self.assertEqual(ChangeError("missing").reason, "missing")

    def test_attribute_keeps_its_kind(self):
        self.assertIs(type(TextError(8000).line), int)
        self.assertIs(type(CommandError(1).line), int)
        self.assertIs(type(RuleError("size").rule), str)
        self.assertIs(type(ChangeError("full").reason), str)

    def test_names_of_arguments(self):
        self.assertEqual(TextError(line=3).line, 3)
        self.assertEqual(CommandError(line=4).line, 4)
        self.assertEqual(RuleError(rule="name").rule, "name")
        self.assertEqual(ChangeError(reason="same").reason, "same")

    def test_number_of_arguments(self):
        for kind in (TextError, RuleError, ChangeError, CommandError):
            with self.assertRaises(TypeError):
                kind()
            with self.assertRaises(TypeError):
                kind(1, 2)
        self.assertIsInstance(BuildError(), BuildError)

    def test_family(self):
        errors = [TextError(1), RuleError("size"), ChangeError("same"), BuildError(), CommandError(1)]
        for error, own in zip(errors, KINDS):
            self.assertIsInstance(error, SwitchError)
            self.assertIsInstance(error, ValueError)
            self.assertEqual([kind for kind in KINDS if isinstance(error, kind)], [own])

    def test_base_class(self):
        self.assertTrue(issubclass(SwitchError, ValueError))
        self.assertFalse(isinstance(SwitchError(), KINDS))

    def test_raised_error_keeps_its_attribute(self):
        with self.assertRaises(SwitchError) as caught:
            raise TextError(12)
        self.assertEqual(caught.exception.line, 12)
        with self.assertRaises(ValueError) as caught:
            raise ChangeError("table")
        self.assertEqual(caught.exception.reason, "table")


if __name__ == "__main__":
    unittest.main()
