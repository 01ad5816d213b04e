import unittest

from lightrules import errors

NAMES = [
    "InvalidCrossing", "InvalidRule", "InvalidRules", "InvalidComing", "InvalidComings",
    "InvalidLights", "InvalidKind", "InvalidRoad", "InvalidCount", "NoRule", "TooLong",
    "NothingToUndo", "ParseError",
]


class ErrorsTest(unittest.TestCase):
    def test_light_error_is_a_value_error(self):
        self.assertEqual(errors.LightError.__bases__, (ValueError,))

    def test_all_errors_are_direct_subclasses_of_light_error(self):
        for name in NAMES:
            with self.subTest(name=name):
                self.assertEqual(getattr(errors, name).__bases__, (errors.LightError,))

    def test_errors_are_defined_in_this_module(self):
        for name in NAMES + ["LightError"]:
            with self.subTest(name=name):
                found = getattr(errors, name)
                self.assertEqual((found.__module__, found.__name__), ("lightrules.errors", name))

    def test_no_other_errors(self):
        subclasses = sorted(found.__name__ for found in errors.LightError.__subclasses__())
        self.assertEqual(subclasses, sorted(NAMES))

    def test_errors_can_be_caught_as_value_errors(self):
        for name in NAMES:
            with self.subTest(name=name), self.assertRaises(ValueError):
                raise getattr(errors, name)("why")


if __name__ == "__main__":
    unittest.main()
