"""Point [2]: the refusals."""

import unittest

from bearerwise.errors import BearerError, Broken, NotValid


class ErrorsTest(unittest.TestCase):
    def test_each_stands_directly_below_the_one_that_the_document_names(self):
        self.assertEqual(BearerError.__bases__, (ValueError,))
        self.assertEqual(NotValid.__bases__, (BearerError,))
        self.assertEqual(Broken.__bases__, (BearerError,))

    def test_neither_refusal_is_the_other_one(self):
        self.assertFalse(issubclass(NotValid, Broken))
        self.assertFalse(issubclass(Broken, NotValid))

    def test_each_is_made_without_an_argument(self):
        for made in (BearerError(), NotValid(), Broken()):
            self.assertIsInstance(made, BearerError)
            self.assertEqual(made.args, ())

    def test_none_takes_an_argument(self):
        for kind in (BearerError, NotValid, Broken):
            with self.assertRaises(TypeError):
                kind("a reason")

    def test_each_is_caught_as_a_bearer_error_and_as_a_value_error(self):
        for kind in (NotValid, Broken):
            for caught in (kind, BearerError, ValueError):
                with self.assertRaises(caught):
                    raise kind()


if __name__ == "__main__":
    unittest.main()
