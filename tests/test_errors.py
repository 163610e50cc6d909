import unittest

from colormatch import errors
from colormatch.errors import ColorError, Irregular, TextFault

NAMES = (
    "BadQuotient", "BadObserver", "Irregular", "BadLamp", "BadReflectance", "TextFault",
    "LengthsDiffer", "Dependent", "WhiteOutside", "IsBlack", "TooMany", "NoFilter",
)


class Errors(unittest.TestCase):
    def test_color_error_is_directly_under_value_error(self):
        self.assertEqual(ColorError.__bases__, (ValueError,))

    def test_every_error_is_directly_under_color_error(self):
        for name in NAMES:
            with self.subTest(name):
                self.assertEqual(getattr(errors, name).__bases__, (ColorError,))

    def test_errors_are_different_classes(self):
        self.assertEqual(len({getattr(errors, name) for name in NAMES}), len(NAMES))

    def test_irregular_has_its_triple(self):
        error = Irregular((0, 2, 3))
        self.assertEqual(error.triple, (0, 2, 3))
        self.assertIsInstance(str(error), str)

    def test_text_fault_has_its_place(self):
        error = TextFault(5)
        self.assertEqual(error.place, 5)
        self.assertIsInstance(str(error), str)

    def test_each_error_can_be_caught_as_color_error_and_as_value_error(self):
        for name in NAMES:
            for base in (ColorError, ValueError):
                with self.subTest(name), self.assertRaises(base):
                    raise getattr(errors, name)("what is wrong")


if __name__ == "__main__":
    unittest.main()
