import unittest

from ordernest import errors

BELOW = ["BadOrder", "BadBook", "Unlike", "BadRule", "BadNumber", "BadWeights", "BadText"]


class Errors(unittest.TestCase):
    def test_any_refusal_is_a_value_error(self):
        self.assertEqual(errors.NestError.__bases__, (ValueError,))

    def test_all_stand_below_it_and_none_below_another(self):
        for name in BELOW:
            with self.subTest(name):
                self.assertTrue(issubclass(getattr(errors, name), errors.NestError))
                for other in BELOW:
                    if other != name:
                        self.assertFalse(issubclass(getattr(errors, name), getattr(errors, other)))

    def test_each_can_be_raised_and_taken_as_any_refusal(self):
        for name in BELOW:
            with self.subTest(name), self.assertRaises(errors.NestError):
                raise getattr(errors, name)("words")


if __name__ == "__main__":
    unittest.main()
