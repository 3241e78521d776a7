"""The refusals of the interface."""

import inspect
import unittest

from wovenway import errors

OF_A_TEXT = (
    errors.NoRow, errors.NoWorths, errors.NoNumber, errors.NoHidden, errors.NoCard,
    errors.Taken, errors.Full, errors.NoneLeft,
)
ALL = OF_A_TEXT + (errors.Barred,)


class Errors(unittest.TestCase):
    def test_row_error_stands_under_value_error(self):
        self.assertTrue(issubclass(errors.RowError, ValueError))
        self.assertIsInstance(errors.RowError("told"), ValueError)

    def test_each_stands_under_row_error(self):
        for error in ALL:
            self.assertTrue(issubclass(error, errors.RowError), error)
            self.assertIsNot(error, errors.RowError)

    def test_none_stands_under_another(self):
        for error in ALL:
            for other in ALL:
                if error is not other:
                    self.assertFalse(issubclass(error, other), (error, other))

    def test_made_of_a_text(self):
        for error in OF_A_TEXT:
            with self.assertRaises(errors.RowError) as caught:
                raise error("the words")
            self.assertEqual(str(caught.exception), "the words")

    def test_barred_has_its_field(self):
        with self.assertRaises(errors.RowError) as caught:
            raise errors.Barred((0, 2, 5, 9))
        self.assertEqual(caught.exception.four, (0, 2, 5, 9))
        self.assertEqual(errors.Barred((1, 2, 3, 4)).four, (1, 2, 3, 4))

    def test_no_other_errors(self):
        defined = [value for value in vars(errors).values() if inspect.isclass(value)]
        self.assertEqual(set(defined), set(ALL) | {errors.RowError})


if __name__ == "__main__":
    unittest.main()
