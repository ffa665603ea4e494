import unittest

from kerbside import errors

NAMES = ("NotAllowed", "BadForm", "BadPaper", "Missing", "Never", "Endless", "Full")


class ErrorsTest(unittest.TestCase):
    def test_base_class_is_a_value_error(self):
        self.assertEqual(errors.KerbError.__bases__, (ValueError,))

    def test_each_other_class_stands_directly_under_it(self):
        for name in NAMES:
            self.assertEqual(getattr(errors, name).__bases__, (errors.KerbError,), name)

    def test_all_are_defined_in_the_file(self):
        for name in ("KerbError",) + NAMES:
            self.assertEqual(getattr(errors, name).__module__, "kerbside.errors")


if __name__ == "__main__":
    unittest.main()
