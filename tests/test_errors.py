"""[12]: the errors, their families, their fields."""

import unittest

from lookundone import errors
from tests.common import ANY_VALUES

FAMILIES = ("PaperError", "WebError", "LiveError", "TextError")
FIELDS = {
    "InvalidPaper": ("PaperError", ("word", "at")),
    "NotUsable": ("WebError", ("word", "at")),
    "NotEven": ("WebError", ("ins", "outs")),
    "NoFlow": ("WebError", ("paper",)),
    "NotRight": ("WebError", ("outcomes",)),
    "NotReady": ("LiveError", ("dot",)),
    "NotDone": ("LiveError", ("dots",)),
    "InvalidText": ("TextError", ("line", "column")),
    "BadScore": ("TextError", ("word", "line")),
    "InvalidRow": ("TextError", ("row",)),
}


class ErrorsTest(unittest.TestCase):
    def test_base_and_families(self):
        self.assertEqual(errors.LookError.__bases__, (ValueError,))
        for name in FAMILIES:
            self.assertEqual(getattr(errors, name).__bases__, (errors.LookError,), name)
        for name, (family, _) in FIELDS.items():
            self.assertEqual(getattr(errors, name).__bases__, (getattr(errors, family),), name)

    def test_all_stand_in_the_file(self):
        for name in ("LookError",) + FAMILIES + tuple(FIELDS):
            self.assertEqual(getattr(errors, name).__module__, "lookundone.errors", name)

    def test_fields_by_position_and_by_name(self):
        for name, (_, fields) in FIELDS.items():
            error_class = getattr(errors, name)
            for k, thing in enumerate(ANY_VALUES):
                values = [thing, ANY_VALUES[-1 - k]][:len(fields)]
                by_position = error_class(*values)
                by_name = error_class(**dict(zip(fields, values)))
                for error in (by_position, by_name):
                    self.assertEqual(list(vars(error)), list(fields), name)
                    for field, value in zip(fields, values):
                        self.assertIs(getattr(error, field), value, name)

    def test_just_the_fields(self):
        for name, (_, fields) in FIELDS.items():
            error_class = getattr(errors, name)
            with self.assertRaises(TypeError):
                error_class(*[0] * (len(fields) + 1))
            with self.assertRaises(TypeError):
                error_class(*[0] * (len(fields) - 1))

    def test_caught_by_family(self):
        for name, (family, fields) in FIELDS.items():
            for base in (getattr(errors, family), errors.LookError, ValueError):
                with self.assertRaises(base):
                    raise getattr(errors, name)(*[0] * len(fields))
            for other in FAMILIES:
                if other != family:
                    self.assertFalse(issubclass(getattr(errors, name), getattr(errors, other)))
