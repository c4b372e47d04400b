"""Point [3]: the refusals."""

import unittest

from leavechain import errors

WITH_TEXT = (
    errors.NoHall, errors.NoRoom, errors.NoLeave, errors.NoGift, errors.NotLet,
    errors.NoMoment, errors.NoActor, errors.Done, errors.TooMany,
)
WITH_ROW = (errors.NoText, errors.NoLog)


class ErrorsTest(unittest.TestCase):
    def test_there_are_eleven(self):
        self.assertEqual(len(set(WITH_TEXT + WITH_ROW)), 11)

    def test_each_stands_straight_under_hall_error(self):
        self.assertEqual(errors.HallError.__bases__, (ValueError,))
        for refusal in WITH_TEXT + WITH_ROW:
            with self.subTest(refusal=refusal.__name__):
                self.assertEqual(refusal.__bases__, (errors.HallError,))

    def test_each_is_a_hall_error_and_a_value_error_and_none_of_the_others(self):
        for refusal in WITH_TEXT + WITH_ROW:
            made = refusal(1) if refusal in WITH_ROW else refusal("why")
            kinds = [other for other in WITH_TEXT + WITH_ROW if isinstance(made, other)]
            with self.subTest(refusal=refusal.__name__):
                self.assertEqual(kinds, [refusal])
                self.assertIsInstance(made, errors.HallError)
                self.assertIsInstance(made, ValueError)

    def test_those_without_fields_are_made_with_one_text(self):
        for refusal in (errors.HallError, *WITH_TEXT):
            with self.subTest(refusal=refusal.__name__):
                self.assertEqual(str(refusal("told why")), "told why")

    def test_the_row_is_a_field_by_place_and_by_name(self):
        for refusal in WITH_ROW:
            with self.subTest(refusal=refusal.__name__):
                self.assertEqual(refusal(7).row, 7)
                self.assertEqual(refusal(row=0).row, 0)
                self.assertRaises(TypeError, refusal)
                self.assertRaises(TypeError, refusal, 1, 2)


if __name__ == "__main__":
    unittest.main()
