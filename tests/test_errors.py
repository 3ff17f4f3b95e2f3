"""The classes of the errors."""

import unittest

from warmswitch import errors

PLAIN = (errors.InvalidHeater, errors.InvalidNumber, errors.OtherWeather, errors.Contradiction)


class ErrorsTest(unittest.TestCase):

    def test_all_are_warmth_errors(self):
        self.assertTrue(issubclass(errors.WarmthError, ValueError))
        for error in PLAIN + (errors.InvalidWeather,):
            self.assertTrue(issubclass(error, errors.WarmthError), error)

    def test_none_is_a_subclass_of_another_one(self):
        every = PLAIN + (errors.InvalidWeather,)
        for one in every:
            for other in every:
                self.assertEqual(issubclass(one, other), one is other, (one, other))

    def test_the_index_is_set_when_the_error_is_created(self):
        self.assertEqual(errors.InvalidWeather(7).index, 7)
        self.assertEqual(errors.InvalidWeather(index=3).index, 3)


if __name__ == "__main__":
    unittest.main()
