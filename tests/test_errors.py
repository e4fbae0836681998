"""The errors: their fields, what they tell, what they derive from."""

import unittest

from lateststore import errors

FIELDS = {
    "BadCount": ("what", "count"),
    "NoLine": ("line",),
    "NoWord": ("word",),
    "NoTime": ("time",),
    "NoImage": (),
    "NoPlace": ("place",),
    "OtherStores": (),
    "NoStore": ("store",),
    "OtherMemory": (),
    "Wide": ("count",),
    "NoName": ("name",),
    "NoRule": ("name",),
    "Empty": (),
    "NoBack": (),
    "BadText": ("place",),
}


class ErrorsTest(unittest.TestCase):
    def test_all_errors_are_there(self):
        there = {name for name, value in vars(errors).items() if isinstance(value, type)}
        self.assertEqual(there, set(FIELDS) | {"StoreError"})

    def test_base(self):
        self.assertEqual(errors.StoreError.__bases__, (ValueError,))
        for name in FIELDS:
            self.assertEqual(getattr(errors, name).__bases__, (errors.StoreError,), name)

    def test_told(self):
        for name, fields in FIELDS.items():
            kind = getattr(errors, name)
            self.assertIn("told", vars(kind))
            self.assertEqual(kind(*fields).told(), "refused " + name.lower())

    def test_fields_by_place_and_by_name(self):
        for name, fields in FIELDS.items():
            for value in (0, -5, 10 ** 40, "word", None, (1, 2)):
                values = {field: (value, at) for at, field in enumerate(fields)}
                for error in (getattr(errors, name)(*values.values()), getattr(errors, name)(**values)):
                    self.assertEqual(vars(error), values)

    def test_equal_to_themselves_alone(self):
        for name, fields in FIELDS.items():
            one, other = getattr(errors, name)(*fields), getattr(errors, name)(*fields)
            self.assertTrue(one == one)
            self.assertFalse(one != one)
            self.assertFalse(one == other)
            self.assertTrue(one != other)


if __name__ == "__main__":
    unittest.main()
