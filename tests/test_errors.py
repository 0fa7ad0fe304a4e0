"""[2]: the refusals and where they stand."""

import unittest

from plainpath.errors import BadRoute, BadRule, NoLine, NoNeighbour, PathError

REFUSALS = (BadRoute, BadRule, NoNeighbour, NoLine)


class ErrorsTest(unittest.TestCase):
    def test_path_error_stands_under_value_error(self):
        self.assertTrue(issubclass(PathError, ValueError))

    def test_each_refusal_stands_below_path_error(self):
        for refusal in REFUSALS:
            with self.subTest(refusal=refusal.__name__):
                self.assertTrue(issubclass(refusal, PathError))
                self.assertIsNot(refusal, PathError)

    def test_no_refusal_stands_under_another(self):
        for one in REFUSALS:
            for other in REFUSALS:
                if one is not other:
                    with self.subTest(one=one.__name__, other=other.__name__):
                        self.assertFalse(issubclass(one, other))

    def test_each_is_called_as_told_and_lies_in_errors(self):
        names = [refusal.__name__ for refusal in REFUSALS + (PathError,)]
        self.assertEqual(names, ["BadRoute", "BadRule", "NoNeighbour", "NoLine", "PathError"])
        for refusal in REFUSALS + (PathError,):
            self.assertEqual(refusal.__module__, "plainpath.errors")

    def test_each_can_be_raised_and_taken_as_value_error(self):
        for refusal in REFUSALS:
            with self.subTest(refusal=refusal.__name__):
                with self.assertRaises(ValueError) as caught:
                    raise refusal("words")
                self.assertIs(type(caught.exception), refusal)


if __name__ == "__main__":
    unittest.main()
