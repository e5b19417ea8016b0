"""Tests of retime.errors: the error classes of the interface."""

import inspect
import unittest

from retime import errors

WITH_ATTRIBUTE = {
    "InconsistentLags": ("cycle", ("a", "", "b")),
    "ParseError": ("line", 3),
    "CannotKeep": ("pair", ("", "a")),
    "NoRepair": ("pair", ("a", "b")),
    "InvalidEdit": ("index", 0),
}
WITH_STRING = [
    "InvalidPlan", "UnknownName", "InvalidKept", "InvalidPrices", "UnknownVersion",
    "InvalidName", "DuplicateName", "UnknownMark", "InvalidCommand", "InvalidLine",
]


class ErrorsTest(unittest.TestCase):
    def test_the_base_is_a_value_error(self):
        self.assertEqual(errors.RetimeError.__bases__, (ValueError,))
        with self.assertRaises(ValueError):
            raise errors.RetimeError("words")
        self.assertEqual(str(errors.RetimeError("words")), "words")

    def test_each_class_is_a_direct_subclass_of_the_base_only(self):
        for name in list(WITH_ATTRIBUTE) + WITH_STRING:
            with self.subTest(name=name):
                found = getattr(errors, name)
                self.assertEqual(found.__bases__, (errors.RetimeError,))
                self.assertTrue(issubclass(found, ValueError))

    def test_there_are_no_other_classes(self):
        found = [name for name, _ in inspect.getmembers(errors, inspect.isclass)]
        self.assertEqual(sorted(found), sorted(["RetimeError", *WITH_ATTRIBUTE, *WITH_STRING]))

    def test_classes_are_defined_in_this_file(self):
        for name in ["RetimeError", *WITH_ATTRIBUTE, *WITH_STRING]:
            self.assertEqual(getattr(errors, name).__module__, "retime.errors")

    def test_attributes_keep_the_value_by_position(self):
        for name, (attribute, value) in WITH_ATTRIBUTE.items():
            with self.subTest(name=name):
                error = getattr(errors, name)(value)
                self.assertEqual(getattr(error, attribute), value)
                self.assertEqual(vars(error), {attribute: value})

    def test_attributes_keep_the_value_by_name(self):
        for name, (attribute, value) in WITH_ATTRIBUTE.items():
            with self.subTest(name=name):
                error = getattr(errors, name)(**{attribute: value})
                self.assertEqual(getattr(error, attribute), value)

    def test_each_object_has_its_own_value(self):
        first, second = errors.ParseError(1), errors.ParseError(2)
        self.assertEqual([first.line, second.line], [1, 2])

    def test_the_value_is_required(self):
        for name in WITH_ATTRIBUTE:
            with self.subTest(name=name), self.assertRaises(TypeError):
                getattr(errors, name)()

    def test_the_others_take_a_string(self):
        for name in WITH_STRING:
            with self.subTest(name=name):
                self.assertEqual(str(getattr(errors, name)("why it failed")), "why it failed")

    def test_an_error_is_caught_by_its_own_class_only(self):
        names = list(WITH_ATTRIBUTE) + WITH_STRING
        made = {name: getattr(errors, name)("") for name in names}
        for name in names:
            for other in names:
                self.assertEqual(isinstance(made[name], getattr(errors, other)), name == other)


if __name__ == "__main__":
    unittest.main()
