"""Point 4: heaters."""

import unittest

from simulation import LIMIT
from warmswitch.errors import InvalidHeater
from warmswitch.rooms import Heater


def parts(heater):
    return heater.gain, heater.low, heater.high


class HeaterTest(unittest.TestCase):

    def assert_invalid(self, call, *arguments):
        with self.assertRaises(InvalidHeater) as caught:
            call(*arguments)
        self.assertIs(type(caught.exception), InvalidHeater)

    def test_properties(self):
        for made in ((4, 18, 20), (1, 0, 0), (200, -5, 7)):
            self.assertEqual(parts(Heater(*made)), made)

    def test_limits(self):
        for made in (
            (1, -LIMIT, LIMIT), (200, -LIMIT, LIMIT), (200, LIMIT, LIMIT), (1, -LIMIT, -LIMIT),
        ):
            self.assertEqual(parts(Heater(*made)), made)

    def test_beyond_the_limits(self):
        for made in (
            (0, 18, 20), (201, 18, 20), (-1, 18, 20), (10 ** 5000, 18, 20),
            (4, 20, 19), (4, -LIMIT - 1, 0), (4, 0, LIMIT + 1), (4, LIMIT + 1, LIMIT + 1),
            (4, -LIMIT - 1, -LIMIT - 1), (4, LIMIT, -LIMIT), (0, 20, 19), (4, -10 ** 5000, 10 ** 5000),
        ):
            self.assert_invalid(Heater, *made)

    def test_moved(self):
        heater = Heater(4, 18, 20)
        for degrees in (0, 1, -1, 1000, -1000, LIMIT - 20, -LIMIT - 18):
            self.assertEqual(parts(heater.moved(degrees)), (4, 18 + degrees, 20 + degrees))
        self.assertEqual(parts(heater), (4, 18, 20))

    def test_moved_beyond_the_limits(self):
        heater = Heater(4, 18, 20)
        for degrees in (LIMIT - 19, -LIMIT - 19, 3 * LIMIT, -3 * LIMIT):
            self.assert_invalid(heater.moved, degrees)
        self.assertEqual(parts(heater), (4, 18, 20))


if __name__ == "__main__":
    unittest.main()
