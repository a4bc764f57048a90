import unittest

from scriberow.errors import NoLine, NoScribe, RowError


class Errors(unittest.TestCase):
    def test_bases_as_the_interface_tells(self):
        self.assertEqual(RowError.__bases__, (ValueError,))
        self.assertEqual(NoScribe.__bases__, (RowError,))
        self.assertEqual(NoLine.__bases__, (RowError,))

    def test_each_refusal_is_taken_as_a_row_error_with_its_words(self):
        for refusal in (RowError, NoScribe, NoLine):
            with self.subTest(refusal=refusal.__name__):
                with self.assertRaises(RowError) as taken:
                    raise refusal("some words")
                self.assertIs(taken.exception.__class__, refusal)
                self.assertEqual(str(taken.exception), "some words")

    def test_one_refusal_is_not_the_other(self):
        self.assertFalse(issubclass(NoScribe, NoLine))
        self.assertFalse(issubclass(NoLine, NoScribe))


if __name__ == "__main__":
    unittest.main()
