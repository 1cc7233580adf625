"""Each error stands below its Python error and keeps what it is created with."""

import unittest

from sentonward import errors
from sentonward.addresses import Address
from tests.values import NO_WORDS, WORDS

PYTHON_ERRORS = (ValueError, TypeError, LookupError, OverflowError, RuntimeError)

WITH_ONE_FIELD = (
    ("InvalidAddress", ValueError, "field"),
    ("InvalidRule", ValueError, "field"),
    ("InvalidText", ValueError, "index"),
    ("InvalidWords", ValueError, "value"),
    ("InvalidPrices", ValueError, "value"),
    ("InvalidWish", ValueError, "field"),
    ("CommandError", ValueError, "value"),
    ("Barred", ValueError, "value"),
    ("Broken", ValueError, "index"),
    ("NotARule", TypeError, "index"),
    ("NotABook", TypeError, "index"),
    ("NotAWish", TypeError, "index"),
    ("OutOfRange", LookupError, "value"),
    ("UnknownRow", LookupError, "value"),
    ("TooMany", OverflowError, "limit"),
    ("TooFew", OverflowError, "limit"),
    ("TooFar", OverflowError, "address"),
    ("Unsettled", RuntimeError, "address"),
    ("GoesOn", RuntimeError, "address"),
)


class ErrorsTest(unittest.TestCase):

    def test_made_by_position_and_by_name(self):
        for name, _, field in WITH_ONE_FIELD:
            kind = getattr(errors, name)
            for value in NO_WORDS + WORDS:
                with self.subTest(name=name, value=value):
                    self.assertIs(getattr(kind(value), field), value)
                    self.assertIs(getattr(kind(**{field: value}), field), value)

    def test_fields_of_other_names_are_missing(self):
        fields = ("field", "index", "value", "limit", "address")
        for name, _, field in WITH_ONE_FIELD:
            error = getattr(errors, name)("a")
            with self.subTest(name=name):
                self.assertEqual([each for each in fields if hasattr(error, each)], [field])

    def test_a_field_is_not_left_out(self):
        for name, _, _ in WITH_ONE_FIELD:
            with self.subTest(name=name), self.assertRaises(TypeError):
                getattr(errors, name)()

    def test_a_list_is_kept_and_not_copied(self):
        value = ["a", ["b"]]
        error = errors.UnknownRow(value)
        value[1].append("c")
        self.assertIs(error.value, value)
        self.assertEqual(error.value, ["a", ["b", "c"]])

    def test_each_stands_directly_below_one_python_error(self):
        for name, base, _ in WITH_ONE_FIELD + (("InTrial", RuntimeError, None),):
            kind = getattr(errors, name)
            with self.subTest(name=name):
                self.assertEqual(kind.__bases__, (base,))
                self.assertEqual(kind.__name__, name)
                self.assertEqual(kind.__module__, "sentonward.errors")
                self.assertEqual([each for each in PYTHON_ERRORS if issubclass(kind, each)], [base])

    def test_in_trial_has_no_fields(self):
        error = errors.InTrial()
        self.assertEqual(error.args, ())
        self.assertEqual(vars(error), {})

    def test_raised_and_caught(self):
        for name, base, field in WITH_ONE_FIELD:
            kind = getattr(errors, name)
            value = Address("a", ["b"])
            with self.subTest(name=name):
                with self.assertRaises(base) as caught:
                    raise kind(value)
                self.assertIs(type(caught.exception), kind)
                self.assertIs(getattr(caught.exception, field), value)
        with self.assertRaises(RuntimeError):
            raise errors.InTrial()


if __name__ == "__main__":
    unittest.main()
