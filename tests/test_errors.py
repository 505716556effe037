"""Point 4, and the errors that the interface lists."""

import unittest

from chartspec import errors

ATTRIBUTES = {
    "PatchDoesNotFit": ("reason", ("not there", (None, "title", ""))),
    "PictureTooLarge": ("pixels", 20001),
    "DuplicateName": ("name", "sales"),
    "UnknownName": ("name", "sales"),
    "WrongKind": ("name", "filter"),
    "ChannelNeeded": ("name", "x"),
    "ChannelNotAllowed": ("name", "y2"),
    "ScalesDoNotFit": ("name", "main"),
    "TooManyCategories": ("count", 401),
    "TooManyRows": ("name", "sales"),
    "NotReadable": ("name", "detail"),
    "NotDecided": ("name", "layers"),
    "NotComparable": ("name", "views"),
    "TooManyCases": ("count", 100000),
}
BARE = ("NothingToUndo", "NothingToRedo")


class ErrorTest(unittest.TestCase):
    def test_all_classes_are_there_and_no_others(self):
        found = [name for name in vars(errors) if isinstance(vars(errors)[name], type)]
        self.assertEqual(sorted(found), sorted([*ATTRIBUTES, *BARE, "ChartError"]))

    def test_the_base_class_is_a_value_error(self):
        self.assertEqual(errors.ChartError.__bases__, (ValueError,))

    def test_each_error_derives_from_the_base_class_alone(self):
        for name in (*ATTRIBUTES, *BARE):
            with self.subTest(name):
                self.assertEqual(getattr(errors, name).__bases__, (errors.ChartError,))

    def test_no_error_is_a_subclass_of_another_one(self):
        classes = [getattr(errors, name) for name in (*ATTRIBUTES, *BARE)]
        for first in classes:
            for second in classes:
                self.assertEqual(issubclass(first, second), first is second, (first, second))

    def test_the_argument_is_the_attribute(self):
        for name, (attribute, value) in ATTRIBUTES.items():
            with self.subTest(name):
                self.assertEqual(getattr(getattr(errors, name)(value), attribute), value)

    def test_the_attribute_belongs_to_the_object(self):
        for name, (attribute, value) in ATTRIBUTES.items():
            with self.subTest(name):
                first, second = getattr(errors, name)(value), getattr(errors, name)(None)
                self.assertEqual(vars(first), {attribute: value})
                self.assertEqual(vars(second), {attribute: None})

    def test_the_attribute_is_the_only_argument(self):
        for name, (_, value) in ATTRIBUTES.items():
            with self.subTest(name):
                self.assertRaises(TypeError, getattr(errors, name))
                self.assertRaises(TypeError, getattr(errors, name), value, value)

    def test_errors_without_an_attribute_take_no_argument(self):
        for name in BARE:
            with self.subTest(name):
                self.assertEqual(vars(getattr(errors, name)()), {})

    def test_an_error_can_be_raised_and_caught_by_its_base_classes(self):
        for base in (errors.ChartError, ValueError):
            with self.assertRaises(base) as caught:
                raise errors.UnknownName("sales")
            self.assertEqual(caught.exception.name, "sales")

    def test_example(self):
        self.assertEqual(errors.UnknownName("sales").name, "sales")


if __name__ == "__main__":
    unittest.main()
