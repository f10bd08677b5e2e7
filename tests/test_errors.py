import unittest

from firstwake import errors

NAMES = [
    "NoProgram", "NoInputs", "NoPlan", "NoOrder", "NoAccess", "NoUnit", "NoFunction", "NoPrices", "NoPlaces",
    "NoNumber", "NoStarts", "NoState", "NoMove", "NoRoom", "TooLong", "TooMany",
]


class Errors(unittest.TestCase):
    def test_wake_error_is_directly_derived_from_value_error(self):
        self.assertEqual(errors.WakeError.__bases__, (ValueError,))
        self.assertEqual(errors.WakeError.__module__, "firstwake.errors")

    def test_each_other_class_is_directly_derived_from_wake_error(self):
        for name in NAMES:
            with self.subTest(name):
                self.assertEqual(getattr(errors, name).__bases__, (errors.WakeError,))
                self.assertEqual(getattr(errors, name).__name__, name)
                self.assertEqual(getattr(errors, name).__module__, "firstwake.errors")

    def test_there_are_no_other_classes(self):
        classes = [name for name, value in vars(errors).items() if isinstance(value, type)]
        self.assertEqual(sorted(classes), sorted(NAMES + ["WakeError"]))

    def test_each_is_made_from_a_text(self):
        for name in NAMES + ["WakeError"]:
            for text in ["", "what is wrong", "a" * 1000]:
                with self.subTest(name):
                    made = getattr(errors, name)(text)
                    self.assertEqual((str(made), made.args), (text, (text,)))

    def test_each_is_of_no_other_class_of_the_package(self):
        for name in NAMES:
            made = getattr(errors, name)("a text")
            self.assertIsInstance(made, ValueError)
            self.assertIsInstance(made, errors.WakeError)
            for other in NAMES:
                with self.subTest(name, other=other):
                    self.assertEqual(isinstance(made, getattr(errors, other)), name == other)

    def test_wake_error_is_none_of_the_others(self):
        for name in NAMES:
            self.assertNotIsInstance(errors.WakeError("a text"), getattr(errors, name))

    def test_each_is_raised_and_caught_by_its_name(self):
        for name in NAMES + ["WakeError"]:
            with self.assertRaises(getattr(errors, name)):
                raise getattr(errors, name)("a text")


if __name__ == "__main__":
    unittest.main()
