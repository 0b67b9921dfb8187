"""The error classes: point [2] and the interface [19]."""

import unittest

from partpicks import errors

LOOKUPS = {"NoName": ("name", "q"), "NoKind": ("kind", -3), "NoNumber": ("number", 10 ** 50), "NothingDone": None}
VALUES = {"Twice": ("name", "q"), "NoParts": None, "NoTree": None, "NoPaper": None, "BadText": None,
          "BadLine": ("number", 7)}


class ErrorsTest(unittest.TestCase):

    def test_bases(self):
        for base, names in ((LookupError, LOOKUPS), (ValueError, VALUES)):
            for name in names:
                with self.subTest(name):
                    self.assertEqual(getattr(errors, name).__bases__, (base,))

    def test_each_keeps_its_value(self):
        for name, told in {**LOOKUPS, **VALUES}.items():
            error = getattr(errors, name)
            with self.subTest(name):
                if told is None:
                    self.assertIsInstance(error(), error)
                    continue
                attribute, value = told
                self.assertEqual(getattr(error(value), attribute), value)
                self.assertEqual(getattr(error(**{attribute: value}), attribute), value)

    def test_each_is_defined_here(self):
        for name in {**LOOKUPS, **VALUES}:
            self.assertEqual(getattr(errors, name).__module__, "partpicks.errors")
            self.assertEqual(getattr(errors, name).__name__, name)


if __name__ == "__main__":
    unittest.main()
