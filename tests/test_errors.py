"""[2] and the interface: the error classes."""

import unittest

from onetrain import errors
from onetrain.errors import TrainError

FIELDS = {
    "BadCount": ("what", "count"),
    "NoCrossing": ("crossing",),
    "RingRoad": ("road",),
    "NoRoad": ("road",),
    "OffRoad": ("road",),
    "NotWhole": ("march",),
    "Wide": ("count",),
    "OtherTree": (),
    "NoName": ("name",),
    "NoRow": ("name",),
    "NoBack": (),
    "BadRow": ("number",),
    "BadText": ("place",),
}

VALUES = [
    0, 1, -1, 10 ** 30, -10 ** 30, 10 ** 5000, "", "crossings", "a b", "~", None, (), (1,),
    ("a", None, (2, ("b",))),
]


def each_error():
    return [(name, getattr(errors, name), fields) for name, fields in FIELDS.items()]


class ErrorClasses(unittest.TestCase):
    def test_the_base_derives_from_value_error(self):
        self.assertEqual(TrainError.__bases__, (ValueError,))

    def test_each_derives_directly_from_the_base(self):
        for name, error, _ in each_error():
            with self.subTest(name):
                self.assertEqual(error.__bases__, (TrainError,))

    def test_no_error_class_is_missing_or_unknown(self):
        found = {
            name for name, value in vars(errors).items()
            if isinstance(value, type) and issubclass(value, TrainError)
        }
        self.assertEqual(found, set(FIELDS) | {"TrainError"})

    def test_each_is_defined_in_the_file_of_the_errors(self):
        for name, error, _ in each_error():
            self.assertEqual((error.__module__, error.__name__), ("onetrain.errors", name))


class Told(unittest.TestCase):
    def test_each_defines_told_itself(self):
        for name, error, _ in each_error():
            with self.subTest(name):
                self.assertIn("told", vars(error))

    def test_told_is_refused_and_the_name_in_lowercase(self):
        for name, error, fields in each_error():
            with self.subTest(name):
                self.assertEqual(error(*fields).told(), "refused " + name.lower())

    def test_told_of_the_base(self):
        self.assertEqual(TrainError().told(), "refused trainerror")

    def test_told_does_not_depend_on_the_fields(self):
        for name, error, fields in each_error():
            for value in VALUES:
                made = error(*[value for _ in fields])
                self.assertEqual(made.told(), "refused " + name.lower())


class Fields(unittest.TestCase):
    def test_fields_by_position_in_order(self):
        for name, error, fields in each_error():
            for value in VALUES:
                with self.subTest(name):
                    given = [(value, at) for at, _ in enumerate(fields)]
                    made = error(*given)
                    self.assertEqual([getattr(made, field) for field in fields], given)

    def test_fields_by_keyword_in_any_order(self):
        for name, error, fields in each_error():
            for value in VALUES:
                with self.subTest(name):
                    given = {field: (value, field) for field in reversed(fields)}
                    made = error(**given)
                    self.assertEqual({field: getattr(made, field) for field in fields}, given)

    def test_fields_keep_the_very_kind_of_value(self):
        for name, error, fields in each_error():
            for value in VALUES:
                made = error(*[value for _ in fields])
                for field in fields:
                    self.assertIs(type(getattr(made, field)), type(value))
                    self.assertEqual(getattr(made, field), value)

    def test_fields_are_set_for_each_object_and_no_others(self):
        for name, error, fields in each_error():
            with self.subTest(name):
                self.assertEqual(tuple(vars(error(*fields))), fields)

    def test_each_can_be_raised_and_caught_as_the_base_and_as_value_error(self):
        for name, error, fields in each_error():
            for base in (TrainError, ValueError):
                with self.subTest(name), self.assertRaises(base) as caught:
                    raise error(*fields)
                self.assertIs(type(caught.exception), error)


if __name__ == "__main__":
    unittest.main()
