import unittest

from gluewords.errors import BadWeb, BadWord, GlueError


class Errors(unittest.TestCase):
    def test_bases(self):
        self.assertEqual(GlueError.__bases__, (ValueError,))
        self.assertEqual(BadWord.__bases__, (GlueError,))
        self.assertEqual(BadWeb.__bases__, (GlueError,))

    def test_none_under_another_one(self):
        self.assertFalse(issubclass(BadWord, BadWeb))
        self.assertFalse(issubclass(BadWeb, BadWord))

    def test_they_are_caught_as_any_refusal(self):
        for refusal in (BadWord, BadWeb):
            with self.assertRaises(GlueError):
                raise refusal("why")


if __name__ == "__main__":
    unittest.main()
