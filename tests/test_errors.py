import unittest

from glide import errors

NAMES = ("NoNumber", "Flat", "Crowded", "NoName", "Twice", "Past", "NoText", "NoRow")


class ErrorsTest(unittest.TestCase):
    def test_any_refusal_is_a_value_error(self):
        self.assertTrue(issubclass(errors.GlideError, ValueError))

    def test_each_stands_under_glide_error(self):
        for name in NAMES:
            with self.subTest(name=name):
                refusal = getattr(errors, name)
                self.assertTrue(issubclass(refusal, errors.GlideError))
                self.assertIsNot(refusal, errors.GlideError)

    def test_none_stands_under_another_one(self):
        for name in NAMES:
            for other in NAMES:
                if name != other:
                    with self.subTest(name=name, other=other):
                        self.assertFalse(issubclass(getattr(errors, name), getattr(errors, other)))

    def test_each_is_raised_with_words_and_taken_as_a_refusal(self):
        for name in NAMES:
            with self.subTest(name=name):
                with self.assertRaises(errors.GlideError):
                    raise getattr(errors, name)("words")


if __name__ == "__main__":
    unittest.main()
