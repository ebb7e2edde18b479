import unittest

from cloak import errors

NAMES = ["NotAllowed", "BadForm", "BadPaper", "Missing", "Used", "Full", "Down"]


class ErrorsTest(unittest.TestCase):

    def test_the_base_class_stands_directly_under_value_error(self):
        self.assertEqual(errors.CloakError.__bases__, (ValueError,))

    def test_each_class_stands_directly_under_the_base_class(self):
        for name in NAMES:
            self.assertEqual(getattr(errors, name).__bases__, (errors.CloakError,), name)

    def test_the_classes_are_different_and_there_are_no_others(self):
        classes = [value for value in vars(errors).values() if isinstance(value, type)]
        self.assertEqual(sorted(c.__name__ for c in classes), sorted(NAMES + ["CloakError"]))

    def test_each_class_is_raised_and_caught_by_name(self):
        for name in NAMES:
            error = getattr(errors, name)
            with self.assertRaises(error) as caught:
                raise error("why")
            self.assertIs(type(caught.exception), error)


if __name__ == "__main__":
    unittest.main()
