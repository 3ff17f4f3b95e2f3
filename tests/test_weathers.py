"""Points 1 to 3: weather and its signs."""

import unittest
from math import lcm

from simulation import FAR, random_cases
from warmswitch.errors import InvalidNumber, InvalidWeather
from warmswitch.weathers import Weather


def some_weathers():
    changes = [(0,), (-100,), (100,), (1, 2), (1, 2, 1, 2), (3, -3), (-2, -1, 0), tuple(range(-12, 12))]
    return [Weather(*each) for each in changes] + [case.weather() for case in random_cases(1, 12)]


class WeatherTestCase(unittest.TestCase):

    def assert_invalid(self, index, call, *arguments):
        with self.assertRaises(InvalidWeather) as caught:
            call(*arguments)
        self.assertIs(type(caught.exception), InvalidWeather)
        self.assertEqual(caught.exception.index, index)


class ChangesTest(WeatherTestCase):

    def test_class_values(self):
        self.assertEqual((Weather.MAX_TICKS, Weather.MAX_CHANGE), (24, 100))

    def test_changes_are_a_tuple(self):
        for changes in ((0,), (100, -100), tuple(range(24))):
            weather = Weather(*changes)
            self.assertEqual(weather.changes, changes)
            self.assertIs(type(weather.changes), tuple)

    def test_changes_out_of_range(self):
        self.assert_invalid(0, Weather, 101)
        self.assert_invalid(0, Weather, -101)
        self.assert_invalid(0, Weather, 101, -101)
        self.assert_invalid(2, Weather, 100, -100, -101, 0, 101)
        self.assert_invalid(23, Weather, *[0] * 23, 101)
        self.assert_invalid(1, Weather, 0, 10 ** 5000)

    def test_too_many_changes(self):
        self.assertEqual(len(Weather(*[5] * 24)), 24)
        self.assert_invalid(24, Weather, *[5] * 25)
        self.assert_invalid(24, Weather, *[5] * 40)
        self.assert_invalid(24, Weather, *[5] * 24, 101)
        self.assert_invalid(24, Weather, *[5] * 30, 101)
        self.assert_invalid(20, Weather, *[5] * 20, 101, *[5] * 30)

    def test_no_changes(self):
        self.assert_invalid(0, Weather)

    def test_constant(self):
        for change in (-100, 0, 7, 100):
            self.assertEqual(Weather.constant(change).changes, (change,))
        self.assert_invalid(0, Weather.constant, 101)
        self.assert_invalid(0, Weather.constant, -101)

    def test_the_caller_keeps_the_list(self):
        changes = [1, 2, 3]
        weather = Weather(*changes)
        changes.clear()
        self.assertEqual(weather.changes, (1, 2, 3))


class TicksTest(WeatherTestCase):

    def test_changes_and_sums_in_the_first_ticks(self):
        for weather in some_weathers():
            total = 0
            for tick in range(80):
                self.assertEqual(weather(tick), total)
                self.assertEqual(weather[tick], weather.changes[tick % len(weather.changes)])
                total += weather[tick]

    def test_changes_and_sums_far_away(self):
        for weather in some_weathers():
            many = len(weather)
            self.assertEqual(many, len(weather.changes))
            for tick in range(FAR - 60, FAR):
                self.assertEqual(weather[tick], weather.changes[tick % many])
                self.assertEqual(weather(tick + 1) - weather(tick), weather[tick])
            rounds = FAR // many
            self.assertEqual(weather(rounds * many), rounds * sum(weather.changes))
            self.assertEqual(weather[FAR], weather.changes[FAR % many])

    def test_ticks_out_of_range(self):
        weather = Weather(1, 2)
        for tick in (-1, FAR + 1, -FAR, 10 ** 5000):
            with self.assertRaises(InvalidNumber):
                weather[tick]
            with self.assertRaises(InvalidNumber):
                weather(tick)
            with self.assertRaises(InvalidNumber):
                weather.later(tick)

    def test_iteration(self):
        weather = Weather(1, 2, 3)
        for call in (iter, list, tuple, set, sum, sorted, enumerate, max):
            with self.assertRaises(TypeError):
                call(weather)
        with self.assertRaises(TypeError):
            for _ in weather:
                pass
        with self.assertRaises(TypeError):
            _, _, _ = weather
        with self.assertRaises(TypeError):
            2 in weather

    def test_later(self):
        for weather in some_weathers():
            for ticks in (0, 1, 2, 23, 24, 25, 1000, FAR):
                late = weather.later(ticks)
                self.assertIsInstance(late, Weather)
                self.assertEqual(len(late), len(weather))
                for tick in range(30):
                    self.assertEqual(late[tick], weather.changes[(ticks + tick) % len(weather)])


class SignsTest(WeatherTestCase):

    def test_sums_and_differences(self):
        for one in some_weathers():
            for other in some_weathers():
                many = lcm(len(one), len(other))
                for sign in (1, -1):
                    both = [one[tick] + sign * other[tick] for tick in range(many)]
                    beyond = [tick for tick in range(many) if abs(both[tick]) > 100 or tick == 24]
                    if beyond:
                        call = Weather.__add__ if sign == 1 else Weather.__sub__
                        self.assert_invalid(beyond[0], call, one, other)
                    else:
                        weather = one + other if sign == 1 else one - other
                        self.assertEqual(weather.changes, tuple(both))

    def test_sums_at_the_limits(self):
        self.assertEqual((Weather(60, -60) + Weather(40, -40)).changes, (100, -100))
        self.assert_invalid(1, lambda: Weather(60, 60) + Weather(40, 41))
        self.assert_invalid(1, lambda: Weather(-60, -60) - Weather(40, 41))
        self.assertEqual(len(Weather(*[1] * 8) + Weather(1, 2, 3)), 24)
        self.assert_invalid(24, lambda: Weather(*[1] * 5) + Weather(*[1] * 7))
        self.assert_invalid(3, lambda: Weather(*[50] * 5) + Weather(0, 0, 0, 51, 0, 0, 0))
        self.assert_invalid(24, lambda: Weather(*[1] * 23) - Weather(*[1] * 24))

    def test_opposites(self):
        for weather in some_weathers():
            self.assertEqual((-weather).changes, tuple(-change for change in weather.changes))

    def test_multiples(self):
        weather = Weather(-2, 0, 33, 1)
        for times in (-3, -1, 0, 1, 2, 3):
            self.assertEqual((weather * times).changes, (-2 * times, 0, 33 * times, times))
        self.assert_invalid(2, lambda: weather * 4)
        self.assert_invalid(2, lambda: weather * -4)
        self.assert_invalid(0, lambda: weather * 51)
        self.assert_invalid(0, lambda: weather * 10 ** 5000)
        self.assertEqual((Weather(0, 0) * 10 ** 30).changes, (0, 0))

    def test_equality(self):
        for one in some_weathers():
            for other in some_weathers():
                alike = all(one[tick] == other[tick] for tick in range(600))
                self.assertIs(one == other, alike)
                self.assertIs(one != other, not alike)

    def test_equality_of_many_ways_to_write_it(self):
        self.assertEqual(Weather(1, 2), Weather(*[1, 2] * 12))
        self.assertEqual(Weather(*[1, 2, 3] * 2), Weather(*[1, 2, 3] * 5))
        self.assertEqual(Weather(*[4] * 23), Weather(*[4] * 24))
        self.assertNotEqual(Weather(*[4] * 23), Weather(*[4] * 23, 5))
        self.assertNotEqual(Weather(1, 2), Weather(2, 1))
        self.assertNotEqual(Weather(1, 2, 1), Weather(1, 2))

    def test_nothing_else_is_equal(self):
        weather = Weather(1)
        for other in (1, (1,), [1], "1", None, True, weather.changes, Weather):
            self.assertIs(weather == other, False)
            self.assertIs(weather != other, True)
            self.assertIs(other == weather, False)

    def test_nothing_is_changed(self):
        one, other = Weather(1, 2), Weather(3, -4, 99)
        for _ in range(3):
            for call in (lambda: one + other, lambda: one - other, lambda: other * 2, lambda: other * -1,
                         lambda: -one, lambda: one.later(1), lambda: one == other, lambda: one[-1]):
                try:
                    call()
                except (InvalidWeather, InvalidNumber):
                    pass
                self.assertEqual((one.changes, other.changes), ((1, 2), (3, -4, 99)))


if __name__ == "__main__":
    unittest.main()
