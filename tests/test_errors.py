"""The classes of the errors."""

import unittest

from warmswitch import errors

PLAIN = (errors.InvalidHeater, errors.InvalidNumber, errors.OtherWeather, errors.Contradiction)
INDEXED = (errors.InvalidWeather, errors.InvalidSetting, errors.InvalidPrices, errors.InvalidOperation)
EVERY = PLAIN + INDEXED + (errors.InvalidReport,)


class ErrorsTest(unittest.TestCase):

    def test_all_are_warmth_errors(self):
        self.assertTrue(issubclass(errors.WarmthError, ValueError))
        for error in EVERY:
            self.assertTrue(issubclass(error, errors.WarmthError), error)

    def test_none_is_a_subclass_of_another_one(self):
        for one in EVERY:
            for other in EVERY:
                self.assertEqual(issubclass(one, other), one is other, (one, other))

    def test_the_index_is_set_when_the_error_is_created(self):
        for error in INDEXED:
            self.assertEqual(error(7).index, 7)
            self.assertEqual(error(index=-1).index, -1)

    def test_the_row_is_set_when_the_error_is_created(self):
        self.assertEqual(errors.InvalidReport(7).row, 7)
        self.assertEqual(errors.InvalidReport(row=3).row, 3)


if __name__ == "__main__":
    unittest.main()
