import unittest

from lookon import errors

ATTRIBUTES = {
    "InvalidArgument": "name",
    "NoSuchNode": "number",
    "NoSuchObserver": "number",
    "RefusedError": "reason",
    "BadRecord": "place",
    "BadText": "place",
    "BadQuery": "place",
}


class ErrorsTest(unittest.TestCase):
    def test_base_class(self):
        self.assertTrue(issubclass(errors.LookError, ValueError))
        self.assertIsInstance(errors.LookError("any"), ValueError)

    def test_each_class_keeps_its_one_argument(self):
        for word, attribute in ATTRIBUTES.items():
            for value in ("marks", 7, 0, None):
                with self.subTest(word=word, value=value):
                    error = getattr(errors, word)(value)
                    self.assertEqual(getattr(error, attribute), value)
                    self.assertIsInstance(error, errors.LookError)
                    self.assertIsInstance(str(error), str)

    def test_no_class_is_a_base_of_another_one(self):
        for word in ATTRIBUTES:
            for other in ATTRIBUTES:
                if word != other:
                    self.assertFalse(issubclass(getattr(errors, word), getattr(errors, other)), (word, other))


if __name__ == "__main__":
    unittest.main()
