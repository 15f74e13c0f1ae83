import unittest

from sackset import errors

NAMES = ("NoNumber", "NoStretch", "NoRank", "NoText")


class Errors(unittest.TestCase):
    def test_all_are_classes_of_this_file(self):
        for name in ("SackError",) + NAMES:
            with self.subTest(name):
                error = getattr(errors, name)
                self.assertIsInstance(error, type)
                self.assertEqual(error.__module__, "sackset.errors")
                self.assertEqual(error.__name__, name)

    def test_sack_error_stands_under_value_error(self):
        self.assertEqual(errors.SackError.__bases__, (ValueError,))

    def test_each_is_a_sack_error_and_a_value_error(self):
        for name in NAMES:
            with self.subTest(name):
                error = getattr(errors, name)
                self.assertTrue(issubclass(error, errors.SackError))
                self.assertTrue(issubclass(error, ValueError))
                with self.assertRaises(errors.SackError):
                    raise error("why")
                with self.assertRaises(ValueError):
                    raise error("why")

    def test_none_is_another_one(self):
        for name in NAMES:
            for other in NAMES:
                with self.subTest(name, other=other):
                    under = issubclass(getattr(errors, name), getattr(errors, other))
                    self.assertIs(under, name == other)


if __name__ == "__main__":
    unittest.main()
