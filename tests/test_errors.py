import unittest

from shapetree.errors import BadShape, ShapeError


class TheErrorClasses(unittest.TestCase):
    def test_what_stands_under_what(self):
        self.assertTrue(issubclass(BadShape, ShapeError))
        self.assertTrue(issubclass(ShapeError, ValueError))
        self.assertEqual(ShapeError.__bases__, (ValueError,))
        self.assertEqual(BadShape.__bases__, (ShapeError,))
        self.assertFalse(issubclass(ShapeError, BadShape))

    def test_bad_shape_is_taken_by_its_name_and_those_above(self):
        for name in (BadShape, ShapeError, ValueError):
            with self.subTest(name=name), self.assertRaises(name) as taken:
                raise BadShape("no shape")
            self.assertIs(type(taken.exception), BadShape)
            self.assertEqual(str(taken.exception), "no shape")

    def test_shape_error_is_taken_by_its_name_and_that_above(self):
        for name in (ShapeError, ValueError):
            with self.subTest(name=name), self.assertRaises(name) as taken:
                raise ShapeError("refused")
            self.assertIs(type(taken.exception), ShapeError)

    def test_the_lesser_names_do_not_take_the_greater(self):
        with self.assertRaises(ShapeError):
            try:
                raise ShapeError("refused")
            except BadShape:
                pass
        with self.assertRaises(ValueError):
            try:
                raise ValueError("not of the program")
            except ShapeError:
                pass

    def test_they_can_be_made_without_words(self):
        for name in (BadShape, ShapeError):
            with self.assertRaises(name):
                raise name()


if __name__ == "__main__":
    unittest.main()
