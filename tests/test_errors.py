"""The errors, their families and their fields."""

import unittest

from howeverled import errors

FIELDS = {
    "InvalidPaper": ("PaperError", ("word", "at")),
    "NotUsable": ("WebError", ("word", "at")),
    "Refused": ("WebError", ("lot",)),
    "Parted": ("WebError", ("here", "there")),
    "Unasked": ("WebError", ("line",)),
    "NotWide": ("WebError", ("coins",)),
    "InvalidEvent": ("LiveError", ("event", "reason")),
    "NothingToUndo": ("LiveError", ("steps",)),
    "InvalidText": ("TextError", ("line", "field")),
    "InvalidRow": ("TextError", ("row",)),
}


class Errors(unittest.TestCase):
    def test_families(self):
        self.assertEqual(errors.LedError.__bases__, (ValueError,))
        for name in ("PaperError", "WebError", "LiveError", "TextError"):
            self.assertEqual(getattr(errors, name).__bases__, (errors.LedError,))
        for name, (family, _) in FIELDS.items():
            self.assertEqual(getattr(errors, name).__bases__, (getattr(errors, family),))

    def test_fields_are_the_very_objects(self):
        for name, (_, fields) in FIELDS.items():
            values = [[name, place] for place, _ in enumerate(fields)]
            made = getattr(errors, name)
            for error in (made(*values), made(**dict(zip(fields, values)))):
                for field, value in zip(fields, values):
                    self.assertIs(getattr(error, field), value)
                self.assertEqual(set(vars(error)), set(fields))

    def test_exactly_these_fields(self):
        for name, (_, fields) in FIELDS.items():
            for many in (len(fields) - 1, len(fields) + 1):
                with self.assertRaises(TypeError):
                    getattr(errors, name)(*[None] * many)

    def test_all_values_are_kept(self):
        for value in (None, True, (), (1, ("a",)), [], "word", -1, 10 ** 60):
            self.assertIs(errors.Refused(value).lot, value)
            self.assertIs(errors.NotUsable("purses", value).at, value)


if __name__ == "__main__":
    unittest.main()
