"""The errors of the interface: their bases and their fields."""

import unittest

from fascicle import errors

FIELDS = {
    "Malformed": ("module", "at"),
    "Oversized": ("limit",),
    "NoModule": ("name",),
    "NoExport": ("module", "name"),
    "Clashing": ("module", "name"),
    "Unknown": ("module", "name"),
    "Fixed": ("module", "name"),
    "Misused": ("module", "name"),
    "BadOption": ("option",),
    "Thrown": ("value",),
    "Weary": (),
}


class ErrorsTest(unittest.TestCase):
    def test_the_base_class_is_a_value_error(self):
        self.assertEqual(errors.Refused.__bases__, (ValueError,))

    def test_all_others_are_direct_subclasses(self):
        for name in FIELDS:
            self.assertEqual(getattr(errors, name).__bases__, (errors.Refused,), name)

    def test_there_are_no_others(self):
        found = {name for name, value in vars(errors).items() if isinstance(value, type)}
        self.assertEqual(found, set(FIELDS) | {"Refused"})

    def test_the_arguments_are_fields(self):
        for name, fields in FIELDS.items():
            values = [f"worth {k}" for k in range(len(fields))]
            error = getattr(errors, name)(*values)
            self.assertEqual([getattr(error, field) for field in fields], values, name)

    def test_the_arguments_have_these_names(self):
        for name, fields in FIELDS.items():
            values = {field: f"worth of {field}" for field in fields}
            self.assertEqual(vars(getattr(errors, name)(**values)), values, name)

    def test_another_number_of_arguments_is_refused(self):
        for name, fields in FIELDS.items():
            with self.assertRaises(TypeError, msg=name):
                getattr(errors, name)(*fields, "one more")

    def test_a_thrown_value_is_of_any_kind(self):
        for value in (0, True, None, ("error", "kind"), len):
            self.assertIs(errors.Thrown(value).value, value)

    def test_each_has_a_message(self):
        for name, fields in FIELDS.items():
            self.assertNotEqual(str(getattr(errors, name)(*fields)), "")


if __name__ == "__main__":
    unittest.main()
