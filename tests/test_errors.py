import inspect
import unittest

from appendhall import errors

NAMES = [
    "BadValue", "BadWords", "BadBlock", "BadPath", "BadCommand", "OutOfRange", "Busy", "TooFew",
    "PowerLoss", "MachineDown", "Destroyed", "Unknown",
]


class ErrorsTest(unittest.TestCase):
    def test_1_10_hall_error_is_directly_under_value_error(self):
        self.assertEqual(errors.HallError.__bases__, (ValueError,))

    def test_1_10_each_class_is_directly_under_hall_error(self):
        for name in NAMES:
            with self.subTest(name):
                self.assertEqual(getattr(errors, name).__bases__, (errors.HallError,))

    def test_1_10_no_class_is_under_another_one(self):
        classes = [getattr(errors, name) for name in NAMES]
        for one in classes:
            for other in classes:
                with self.subTest(one=one, other=other):
                    self.assertEqual(issubclass(one, other), one is other)

    def test_1_10_these_are_all_error_classes(self):
        found = [name for name, thing in vars(errors).items() if inspect.isclass(thing)]
        self.assertEqual(sorted(found), sorted(NAMES + ["HallError"]))

    def test_1_10_an_error_is_created_with_one_string(self):
        for name in NAMES + ["HallError"]:
            with self.subTest(name):
                error = getattr(errors, name)("what happened")
                self.assertEqual(str(error), "what happened")
                self.assertIsInstance(error, ValueError)

    def test_1_10_an_error_is_not_caught_as_another_one(self):
        with self.assertRaises(errors.BadWords):
            try:
                raise errors.BadWords("words")
            except errors.BadValue:
                self.fail("BadWords was caught as BadValue")


if __name__ == "__main__":
    unittest.main()
