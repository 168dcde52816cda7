import unittest

from trunksay import errors

from tests.helping import REFUSALS


class ErrorClasses(unittest.TestCase):
    def test_base_stands_straight_under_value_error(self):
        self.assertEqual(errors.TrunkError.__bases__, (ValueError,))

    def test_each_refusal_stands_straight_under_the_base(self):
        for name in REFUSALS:
            self.assertEqual(getattr(errors, name).__bases__, (errors.TrunkError,), name)

    def test_there_are_just_ten_classes(self):
        classes = [name for name, value in vars(errors).items() if isinstance(value, type)]
        self.assertEqual(sorted(classes), sorted(REFUSALS + ("TrunkError",)))


if __name__ == "__main__":
    unittest.main()
