"""Tests of rankeffect.errors: base classes and fields."""

import unittest

from tests.odd_objects import NO_INTEGERS
from rankeffect import errors

# Each error with its direct base class and its field.
LISTED = [
    ("InvalidList", "RankError", "value"),
    ("InvalidStep", "RankError", "value"),
    ("InvalidTable", "RankError", "value"),
    ("InvalidEffect", "RankError", "value"),
    ("InvalidNumber", "RankError", "value"),
    ("InvalidFacts", "RankError", "value"),
    ("InvalidName", "RankError", "value"),
    ("InvalidCommand", "RankError", "value"),
    ("ParseError", "RankError", "line"),
    ("StepFailed", "RuntimeError", "index"),
    ("LimitExceeded", "OverflowError", "limit"),
    ("NothingToUndo", "LookupError", "user"),
    ("NothingToRedo", "LookupError", "user"),
]
BASES = {
    "RankError": errors.RankError,
    "RuntimeError": RuntimeError,
    "OverflowError": OverflowError,
    "LookupError": LookupError,
}


def some_objects():
    return [*NO_INTEGERS, 0, 1, -1, 10 ** 99, "text", (1, [2]), [1, [2]], {"a": [1]}, ValueError("inner")]


class FieldTest(unittest.TestCase):
    def test_field_by_position_is_the_object_itself(self):
        for name, _, field in LISTED:
            for value in some_objects():
                error = getattr(errors, name)(value)
                self.assertIs(getattr(error, field), value, name)

    def test_field_by_name_is_the_object_itself(self):
        for name, _, field in LISTED:
            for value in some_objects():
                error = getattr(errors, name)(**{field: value})
                self.assertIs(getattr(error, field), value, name)

    def test_field_is_kept_when_raised(self):
        for name, _, field in LISTED:
            for value in some_objects():
                error_class = getattr(errors, name)
                with self.assertRaises(error_class) as caught:
                    raise error_class(value)
                self.assertIs(getattr(caught.exception, field), value, name)

    def test_changes_of_the_object_show_in_the_field(self):
        for name, _, field in LISTED:
            value = [1]
            error = getattr(errors, name)(value)
            value.append(2)
            self.assertEqual(getattr(error, field), [1, 2], name)

    def test_errors_keep_fields_of_their_own(self):
        for name, _, field in LISTED:
            error_class = getattr(errors, name)
            first, second = error_class("first"), error_class("second")
            self.assertEqual((getattr(first, field), getattr(second, field)), ("first", "second"), name)


class BaseTest(unittest.TestCase):
    def test_rank_error_is_a_value_error(self):
        self.assertEqual(errors.RankError.__bases__, (ValueError,))

    def test_direct_base_classes(self):
        for name, base, _ in LISTED:
            self.assertEqual(getattr(errors, name).__bases__, (BASES[base],), name)

    def test_only_rank_error_is_a_base_class(self):
        found = [value for value in vars(errors).values()
                 if isinstance(value, type) and issubclass(value, Exception)
                 and value.__module__ == errors.__name__]
        self.assertGreaterEqual(len(found), len(LISTED) + 1)
        for upper in found:
            for lower in found:
                if upper is not lower and upper is not errors.RankError:
                    self.assertFalse(issubclass(lower, upper), (lower, upper))

    def test_caught_by_their_base_classes_only(self):
        for name, base, _ in LISTED:
            error = getattr(errors, name)("field")
            for other_name, other in BASES.items():
                self.assertEqual(isinstance(error, other), other_name == base, (name, other_name))
            self.assertEqual(isinstance(error, ValueError), base == "RankError", name)


if __name__ == "__main__":
    unittest.main()
