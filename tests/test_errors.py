"""The errors: each class, its place, how it is made, and its fields."""

import inspect
import unittest

from circlesettle import errors

WITHOUT_FIELDS = [
    "BadSize", "BadForm", "BadAmount", "BadCell", "BadShift", "TooDeep",
    "BadName", "UnknownName", "InUse", "NothingToUndo", "NothingToRedo",
    "BadLink", "CannotBeOut",
]
WITH_FIELDS = {"BadText": ("line", "column"), "NotInput": ("cell",), "BadEntry": ("place",)}


def classes_of_errors():
    return [each for _, each in inspect.getmembers(errors, inspect.isclass)]


class TestErrors(unittest.TestCase):
    def test_the_base_class_stands_directly_under_value_error(self):
        self.assertEqual(errors.SheetError.__bases__, (ValueError,))

    def test_the_file_has_the_listed_classes(self):
        names = sorted(["SheetError", *WITHOUT_FIELDS, *WITH_FIELDS])
        self.assertEqual(sorted(each.__name__ for each in classes_of_errors()), names)

    def test_each_class_stands_directly_under_the_base_class_alone(self):
        for name in [*WITHOUT_FIELDS, *WITH_FIELDS]:
            with self.subTest(name=name):
                found = getattr(errors, name)
                self.assertEqual(found.__bases__, (errors.SheetError,))
                self.assertTrue(issubclass(found, ValueError))

    def test_no_class_stands_under_another_one(self):
        for name in [*WITHOUT_FIELDS, *WITH_FIELDS]:
            found = getattr(errors, name)
            below = [each for each in classes_of_errors() if issubclass(each, found)]
            with self.subTest(name=name):
                self.assertEqual(below, [found])

    def test_classes_without_fields_are_made_with_no_argument(self):
        for name in WITHOUT_FIELDS:
            with self.subTest(name=name):
                found = getattr(errors, name)
                error = found()
                self.assertIs(error.__class__, found)
                self.assertEqual(vars(error), {})

    def test_the_arguments_are_the_fields(self):
        for name, fields in WITH_FIELDS.items():
            values = list(range(7, 7 + len(fields)))
            with self.subTest(name=name):
                error = getattr(errors, name)(*values)
                self.assertEqual(vars(error), dict(zip(fields, values)))

    def test_the_arguments_have_the_names_of_the_fields(self):
        self.assertEqual(vars(errors.BadText(column=5, line=2)), {"line": 2, "column": 5})
        self.assertEqual(errors.NotInput(cell=3).cell, 3)
        self.assertEqual(errors.BadEntry(place=0).place, 0)

    def test_fields_are_required(self):
        for name, fields in WITH_FIELDS.items():
            with self.subTest(name=name), self.assertRaises(TypeError):
                getattr(errors, name)(*range(len(fields) - 1))

    def test_each_error_is_caught_as_the_base_class_and_as_value_error(self):
        made = [getattr(errors, name)() for name in WITHOUT_FIELDS]
        made.extend([errors.BadText(1, 1), errors.NotInput(0), errors.BadEntry(0)])
        for error in made:
            for base in (errors.SheetError, ValueError):
                with self.subTest(error=error.__class__.__name__, base=base.__name__):
                    with self.assertRaises(base) as caught:
                        raise error
                    self.assertIs(caught.exception, error)


if __name__ == "__main__":
    unittest.main()
