"""Points 7 and 8: the least low threshold, and where two rooms part."""

import unittest

from simulation import FAR, LIMIT, Case, Simulation, long_simulation, random_cases, wide_cases
from warmswitch.errors import InvalidHeater, InvalidNumber, OtherWeather
from warmswitch.rooms import Heater, Room, first_parting, least_low
from warmswitch.weathers import Weather


class LeastLowTest(unittest.TestCase):

    def coldest(self, case, low, band):
        """The lowest temperature of a room that starts at its low threshold; None if it only falls."""
        simulation = long_simulation(Case(case.changes, case.gain, low, low + band, low))
        if simulation.degrees[-1] < low - 4000:
            return None
        return min(simulation.degrees)

    def test_the_least_threshold_is_enough_and_one_less_is_not(self):
        for case in random_cases(11, 150):
            band = case.high - case.low
            for temperature in (-70, 0, 15):
                low = least_low(case.weather(), case.gain, band, temperature)
                if low is None:
                    for other in (-300, 0, temperature, 300):
                        self.assertIsNone(self.coldest(case, other, band), case)
                else:
                    self.assertGreaterEqual(self.coldest(case, low, band), temperature, case)
                    self.assertLess(self.coldest(case, low - 1, band), temperature, case)

    def test_known_ones(self):
        for weather, gain, band, temperature, low in (
            (Weather(0), 1, 0, 15, 15),
            (Weather(5), 1, 0, 15, 15),
            (Weather(-1), 1, 0, 15, 16),
            (Weather(-3), 3, 10 ** 6, 0, 3),
            (Weather(-3), 2, 0, 0, None),
            (Weather(-4, 2), 1, 0, 15, 19),
            (Weather(-100), 200, 10 ** 6, 15, 115),
            (Weather(-100), 99, 10 ** 6, 15, None),
            (Weather(-100, 99), 1, 0, 0, 100),
        ):
            self.assertEqual(least_low(weather, gain, band, temperature), low)

    def test_nothing_limits_thresholds_and_temperatures(self):
        weather = Weather(-2, -1, 0)
        for temperature in (LIMIT, -LIMIT, LIMIT + 1, 10 ** 30, -10 ** 30, LIMIT - 1):
            self.assertEqual(least_low(weather, 4, 2, temperature), temperature + 2)
        self.assertEqual(least_low(weather, 4, 10 ** 6, LIMIT), LIMIT + 2)

    def test_rooms_at_this_threshold_ever(self):
        for case in random_cases(12, 60):
            for band in (0, 7, 10 ** 6):
                low = least_low(case.weather(), case.gain, band, 0)
                if low is not None:
                    room = Room(case.weather(), Heater(case.gain, low, low + band), low)
                    self.assertEqual(room.lowest[0], 0, (case, band))
                else:
                    room = Room(case.weather(), Heater(case.gain, 0, band), 0)
                    self.assertIsNone(room.lowest, (case, band))

    def test_errors(self):
        weather = Weather(-1)
        for gain in (1, 200):
            for band in (0, 10 ** 6):
                self.assertIsNotNone(least_low(weather, gain, band, 0))
        for gain, band, error in (
            (0, 0, InvalidHeater), (201, 0, InvalidHeater), (0, -1, InvalidHeater), (201, 10 ** 7, InvalidHeater),
            (1, -1, InvalidNumber), (200, 10 ** 6 + 1, InvalidNumber), (4, -5, InvalidNumber),
        ):
            with self.assertRaises(error):
                least_low(weather, gain, band, 0)
        self.assertEqual(least_low(weather, 4, 0, 0), 1)


class FirstPartingTest(unittest.TestCase):

    def simulated(self, case, other):
        """The first tick with unlike temperatures; None if both have repeated without one."""
        ticks = 2000
        while True:
            one, two = Simulation(case, ticks), Simulation(other, ticks)
            for tick in range(ticks):
                if one.degrees[tick] != two.degrees[tick]:
                    return tick
            if one.repetition(case) is not None or abs(one.degrees[-1]) > 5000:
                return None
            ticks *= 2

    def likes(self, case):
        """Cases that are like a case at first."""
        changes, gain, low, high, start, on = (
            case.changes, case.gain, case.low, case.high, case.start, case.on)
        yield Case(changes, gain, low, high, start, on)
        yield Case(changes, gain, low, high, start, not on)
        yield Case(changes, gain, low, high, start + 1, on)
        yield Case(changes, gain % 200 + 1, low, high, start, on)
        for by in (1, 2, 5, 20):
            yield Case(changes, gain, low - by, high, start, on)
            yield Case(changes, gain, low, high + by, start, on)
            yield Case(changes, gain, low - by, high + by, start, on)
            yield Case(changes, gain, low + by, high + by, start, on)
            yield Case(changes, gain % 200 + 1, low - by, high, start, on)

    def test_near(self):
        partings = []
        for case in random_cases(13, 60):
            for other in self.likes(case):
                expected = self.simulated(case, other)
                self.assertEqual(first_parting(case.room(), other.room()), expected, (case, other))
                self.assertEqual(first_parting(other.room(), case.room()), expected, (case, other))
                partings.append(expected)
        self.assertIn(None, partings)
        self.assertGreater(max(tick for tick in partings if tick is not None), 100)

    def test_weather_that_is_written_in_two_ways(self):
        for case in random_cases(14, 50):
            size = len(case.changes)
            for times, other_times in ((1, 2), (2, 1), (3, 1), (2, 3), (1, 24 // size), (24 // size, 1)):
                if max(times, other_times) * size > 24:
                    continue
                for other in self.likes(case):
                    one_way = Case(case.changes * times, case.gain, case.low, case.high, case.start, case.on)
                    other_way = Case(other.changes * other_times, other.gain, other.low, other.high,
                                     other.start, other.on)
                    self.assertEqual(first_parting(one_way.room(), other_way.room()),
                                     first_parting(case.room(), other.room()), (one_way, other_way))

    def test_wide(self):
        for case in wide_cases()[::3]:
            for other in self.likes(case):
                if min(-other.low, -other.start) < -LIMIT or max(other.high, -other.low, other.start) > LIMIT:
                    continue
                one, two = case.room(), other.room()
                tick = first_parting(one, two)
                if tick is None:
                    for place in [0, 1, 1000, LIMIT, FAR - 1, FAR]:
                        self.assertEqual(one.temperature(place), two.temperature(place), (case, other))
                        self.assertEqual(one.switchings(FAR) - one.switchings(1),
                                         two.switchings(FAR) - two.switchings(1), (case, other))
                else:
                    self.assert_parts_at(one, two, tick)

    def assert_parts_at(self, one, other, tick):
        self.assertNotEqual(one.temperature(tick), other.temperature(tick))
        for before in range(max(0, tick - 50), tick):
            self.assertEqual(one.temperature(before), other.temperature(before))
        for part in range(1, 100):
            place = tick * part // 100
            if place < tick:
                self.assertEqual(one.temperature(place), other.temperature(place))
                self.assertEqual(one.heating_ticks(place), other.heating_ticks(place))

    def test_far(self):
        weather = Weather(-1)
        one = Room(weather, Heater(3, -LIMIT, LIMIT), LIMIT)
        self.assertEqual(first_parting(one, Room(weather, Heater(3, 1 - LIMIT, LIMIT), LIMIT)), 2 * LIMIT + 1)
        self.assertEqual(first_parting(one, Room(weather, Heater(3, -LIMIT, LIMIT - 1), LIMIT)), None)
        self.assertEqual(first_parting(one, Room(weather, Heater(3, -LIMIT, LIMIT - 2), LIMIT)), 3 * LIMIT + 2)
        self.assertEqual(first_parting(one, Room(weather, Heater(4, -LIMIT, LIMIT), LIMIT)), 2 * LIMIT + 2)
        self.assertEqual(first_parting(one, Room(weather, Heater(4, -LIMIT, LIMIT - 1), LIMIT)), 2 * LIMIT + 2)
        self.assertEqual(first_parting(one, Room(weather, Heater(3, -LIMIT, LIMIT), LIMIT - 1)), 0)

    def test_far_after_many_switchings(self):
        for changes, gain in (((-89,), 179), ((-100,) + (0,) * 23, 101)):
            one = Room(Weather(*changes), Heater(gain, -LIMIT, LIMIT - 10), 0)
            other = Room(Weather(*changes), Heater(gain, -LIMIT, LIMIT - 9), 0)
            tick = first_parting(one, other)
            self.assert_parts_at(one, other, tick)
            self.assertGreater(one.switchings(tick), 100)

    def test_a_parting_in_the_first_ticks(self):
        weather = Weather(-1)
        one = Room(weather, Heater(3, 18, 21), 20)
        self.assertEqual(first_parting(one, Room(weather, Heater(3, 18, 21), 20, on=True)), 1)
        self.assertEqual(first_parting(one, Room(weather, Heater(3, 21, 21), 20)), 1)
        self.assertEqual(first_parting(one, Room(weather, Heater(3, 18, 21), 21)), 0)
        cold = Room(weather, Heater(3, 18, 21), 0)
        self.assertEqual(first_parting(cold, Room(weather, Heater(3, 18, 21), 0, on=True)), None)
        self.assertEqual(first_parting(cold, Room(weather, Heater(2, 18, 21), 0)), 1)

    def test_a_heater_that_never_goes_on_is_like_any_other(self):
        one = Room(Weather(1), Heater(3, 18, 21), 20)
        self.assertIsNone(first_parting(one, Room(Weather(1, 1), Heater(9, -4, 90), 20)))
        self.assertEqual(first_parting(one, Room(Weather(1), Heater(9, 21, 90), 20)), 1)

    def test_other_weather(self):
        heater = Heater(3, 18, 21)
        one = Room(Weather(-1, -2), heater, 20)
        for other in (Weather(-2, -1), Weather(-1), Weather(-1, -2, -1), Weather(-1, -2, -1, -2, -1, -3)):
            for rooms in ((one, Room(other, heater, 20)), (Room(other, heater, 5), one)):
                with self.assertRaises(OtherWeather) as caught:
                    first_parting(*rooms)
                self.assertIs(type(caught.exception), OtherWeather)
        self.assertIsNone(first_parting(one, Room(Weather(-1, -2, -1, -2), heater, 20)))

    def test_the_same_again_and_again(self):
        weather = Weather(-2, -1, 0)
        one = Room(weather, Heater(4, 18, 20), 20)
        other = Room(weather, Heater(4, 18, 21), 20)
        for _ in range(3):
            self.assertEqual(first_parting(one, other), 4)
            self.assertEqual(least_low(weather, 4, 2, 15), 17)
            self.assertEqual((one.temperature(9), other.temperature(9), weather.changes), (23, 19, (-2, -1, 0)))


if __name__ == "__main__":
    unittest.main()
