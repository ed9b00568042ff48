"""The errors: families, bases, fields [The interface]."""

import unittest

from everytongue import errors

FAMILIES = ("PaperError", "UseError", "HouseError", "TextError")
ERRORS = {
    "InvalidPaper": ("PaperError", ("word", "at")),
    "NotUsable": ("UseError", ("word", "at")),
    "TooMuch": ("UseError", ("word",)),
    "NoSuch": ("HouseError", ("name",)),
    "Taken": ("HouseError", ("name",)),
    "InUse": ("HouseError", ("name",)),
    "NothingToUndo": ("HouseError", ("steps",)),
    "InvalidText": ("TextError", ("line", "field")),
}


class Errors(unittest.TestCase):

    def test_bases(self):
        self.assertEqual(errors.TongueError.__bases__, (ValueError,))
        for name in FAMILIES:
            self.assertEqual(getattr(errors, name).__bases__, (errors.TongueError,))
        for name, (family, _) in ERRORS.items():
            self.assertEqual(getattr(errors, name).__bases__, (getattr(errors, family),))

    def test_no_others(self):
        found = [name for name, value in vars(errors).items() if isinstance(value, type)]
        self.assertEqual(sorted(found), sorted(("TongueError",) + FAMILIES + tuple(ERRORS)))

    def test_fields_are_the_very_objects(self):
        for name, (_, fields) in ERRORS.items():
            made = getattr(errors, name)
            values = [["x", object()], {"y": 1}][:len(fields)]
            for error in (made(*values), made(**dict(zip(fields, values)))):
                self.assertEqual(tuple(vars(error)), fields)
                for field, value in zip(fields, values):
                    self.assertIs(getattr(error, field), value)

    def test_just_its_fields(self):
        for name, (_, fields) in ERRORS.items():
            made = getattr(errors, name)
            for many in range(4):
                if many != len(fields):
                    self.assertRaises(TypeError, made, *(["x"] * many))

    def test_caught_by_family_and_base(self):
        for name, (family, fields) in ERRORS.items():
            for base in (getattr(errors, family), errors.TongueError, ValueError):
                with self.assertRaises(base):
                    raise getattr(errors, name)(*([0] * len(fields)))


if __name__ == "__main__":
    unittest.main()
