import unittest

from posthouses import errors


class ErrorClasses(unittest.TestCase):
    def test_post_error_is_straight_under_value_error(self):
        self.assertEqual(errors.PostError.__bases__, (ValueError,))

    def test_each_refusal_is_straight_under_post_error(self):
        for name in ("BadRoad", "BadPosts", "BadStretch", "BadMany"):
            with self.subTest(name):
                self.assertEqual(getattr(errors, name).__bases__, (errors.PostError,))


if __name__ == "__main__":
    unittest.main()
