import unittest

from clausewood.errors import NoLine, NoRule, NoTree, Twice, WoodError

REFUSALS = (NoRule, Twice, NoTree, NoLine)


class ErrorClasses(unittest.TestCase):
    def test_any_refusal_is_a_value_error(self):
        self.assertEqual(WoodError.__bases__, (ValueError,))

    def test_each_refusal_is_a_wood_error_and_a_value_error(self):
        for refusal in REFUSALS:
            with self.subTest(refusal=refusal.__name__):
                self.assertEqual(refusal.__bases__, (WoodError,))
                with self.assertRaises(WoodError):
                    raise refusal("words")
                with self.assertRaises(ValueError):
                    raise refusal("words")

    def test_no_refusal_is_taken_for_another(self):
        for one in REFUSALS:
            for other in REFUSALS:
                self.assertEqual(issubclass(one, other), one is other)


if __name__ == "__main__":
    unittest.main()
