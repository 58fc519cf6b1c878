"""errors.py and point 8: the classes, their attributes and what they derive from."""

import unittest

from rulerows import errors
from rulerows.errors import BadValue, NotPossible, RowError, TextError, TooLarge
from tests.support import RowsTest

BELOW = (BadValue, TooLarge, NotPossible, TextError)


class ErrorsTest(RowsTest):

    def test_all_derive_from_row_error_and_value_error(self):
        self.assertTrue(issubclass(RowError, ValueError))
        for kind in BELOW:
            self.assertTrue(issubclass(kind, RowError), kind)
            self.assertIsNot(kind, RowError)

    def test_no_class_below_row_error_derives_from_another_one(self):
        for kind in BELOW:
            for other in BELOW:
                self.assertEqual(issubclass(kind, other), kind is other, (kind, other))

    def test_attributes(self):
        self.same(BadValue("listed").name, "listed")
        self.same(TooLarge("commands").what, "commands")
        self.same(NotPossible("wrong").why, "wrong")
        error = TextError(9, "there is no such value")
        self.same(error.column, 9)
        self.same(error.words, "there is no such value")

    def test_attributes_belong_to_each_object(self):
        one, other = BadValue("row"), BadValue("case")
        self.same((one.name, other.name), ("row", "case"))
        one, other = TextError(1, "a"), TextError(2, "b")
        self.same((one.column, one.words, other.column, other.words), (1, "a", 2, "b"))

    def test_errors_are_caught_by_their_base_classes(self):
        for error in (BadValue("row"), TooLarge("commands"), NotPossible("none"), TextError(1, "a")):
            for kind in (RowError, ValueError):
                with self.assertRaises(kind) as caught:
                    raise error
                self.assertIs(caught.exception, error)

    def test_classes_are_defined_in_their_file(self):
        for name in ("RowError", "BadValue", "TooLarge", "NotPossible", "TextError"):
            self.assertEqual(getattr(errors, name).__module__, "rulerows.errors")


if __name__ == "__main__":
    unittest.main()
