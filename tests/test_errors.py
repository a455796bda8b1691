"""The error classes of the interface: their bases, their fields and how they are made."""

import inspect
import unittest

from cubesums import errors

PLAIN = ("BadDimensions", "BadGrouping", "NoSuchCell", "NoSuchGroup", "AlreadyStored", "NotStored",
         "NotDetermined", "SumsDiffer", "ShapesDiffer", "NoSuchMark", "AlreadyWatched", "NotWatched")
NAMED = ("NoSuchName", "TwiceAsked")
WITH_FIELDS = (("NoSuchName", "name", "town"), ("TwiceAsked", "name", ""), ("FaultyText", "at", 7),
               ("TooLarge", "count", 49))


def kinds():
    """All classes of the interface but CubeError."""
    return [getattr(errors, name) for name in PLAIN + NAMED + ("FaultyText", "TooLarge")]


class ErrorTest(unittest.TestCase):
    def test_base_class(self):
        self.assertEqual(errors.CubeError.__bases__, (ValueError,))

    def test_each_is_directly_under_cube_error(self):
        for kind in kinds():
            with self.subTest(kind.__name__):
                self.assertEqual(kind.__bases__, (errors.CubeError,))

    def test_none_has_another_one_under_it(self):
        for kind in kinds():
            for other in kinds():
                if kind is not other:
                    self.assertFalse(issubclass(other, kind), (kind, other))

    def test_no_other_error_and_each_defined_here(self):
        defined = {name for name, found in vars(errors).items() if inspect.isclass(found)}
        self.assertEqual(defined, {kind.__name__ for kind in kinds()} | {"CubeError"})
        for kind in kinds():
            self.assertEqual(kind.__module__, "cubesums.errors")

    def test_plain_ones_are_made_without_arguments_and_have_no_fields(self):
        for name in PLAIN:
            with self.subTest(name):
                made = getattr(errors, name)()
                self.assertEqual(vars(made), {})

    def test_field_is_set_when_made(self):
        for name, field, worth in WITH_FIELDS:
            with self.subTest(name):
                made = getattr(errors, name)(worth)
                self.assertEqual(vars(made), {field: worth})

    def test_argument_has_the_name_of_the_field(self):
        for name, field, worth in WITH_FIELDS:
            with self.subTest(name):
                made = getattr(errors, name)(**{field: worth})
                self.assertEqual(getattr(made, field), worth)

    def test_field_must_be_given(self):
        for name, _, _ in WITH_FIELDS:
            with self.subTest(name), self.assertRaises(TypeError):
                getattr(errors, name)()

    def test_raised_and_caught(self):
        for name, field, worth in WITH_FIELDS:
            with self.subTest(name):
                with self.assertRaises(ValueError) as caught:
                    raise getattr(errors, name)(worth)
                self.assertIs(type(caught.exception), getattr(errors, name))
                self.assertEqual(getattr(caught.exception, field), worth)


if __name__ == "__main__":
    unittest.main()
