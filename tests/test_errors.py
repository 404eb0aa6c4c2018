"""[11]: the errors keep what they are given."""

import unittest

from neverheaps import errors
from tests.samples import any_values

FIELDS = {
    "Broken": ("duty",), "CannotBeDone": ("index",), "Gains": ("ring", "tariff"), "NeverHelps": ("ring", "tariff"),
    "NoArrow": ("index",), "NoCommand": (), "NoDuty": ("duty",), "NoIndex": ("index",), "NoLeast": ("run",),
    "NoName": ("name",), "NotApart": ("index",), "NotEnough": ("run",), "NoText": ("line",), "Nothing": (),
    "Piles": ("run",), "TooMany": ("most",), "Used": ("name",), "Wrong": ("place",),
}


class ErrorsTest(unittest.TestCase):

    def test_each_class_is_a_heap_error_and_no_other_one(self):
        classes = {name: getattr(errors, name) for name in FIELDS}
        for name, made in classes.items():
            self.assertTrue(issubclass(made, errors.HeapError), name)
            self.assertTrue(issubclass(made, ValueError), name)
            self.assertEqual(made.__name__, name)
            for other, of_other in classes.items():
                self.assertEqual(issubclass(made, of_other), name == other, (name, other))
        self.assertTrue(issubclass(errors.HeapError, ValueError))
        self.assertFalse(any(issubclass(errors.HeapError, made) for made in classes.values()))

    def test_the_module_has_these_classes_alone(self):
        here = [name for name, thing in vars(errors).items() if isinstance(thing, type)]
        self.assertEqual(sorted(here), sorted(list(FIELDS) + ["HeapError"]))

    def test_the_very_objects_are_kept(self):
        values = any_values()
        for name, fields in FIELDS.items():
            for at, value in enumerate(values):
                given = [value, values[at - 1]][:len(fields)]
                error = getattr(errors, name)(*given)
                for field, thing in zip(fields, given):
                    self.assertIs(getattr(error, field), thing, (name, field))

    def test_they_can_be_raised_and_caught(self):
        for name, fields in FIELDS.items():
            with self.assertRaises(errors.HeapError) as caught:
                raise getattr(errors, name)(*[[1, {}]] * len(fields))
            self.assertIs(type(caught.exception), getattr(errors, name))

    def test_heap_error_alone(self):
        with self.assertRaises(ValueError):
            raise errors.HeapError()


if __name__ == "__main__":
    unittest.main()
