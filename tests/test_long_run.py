"""Point 6: the long run."""

import unittest
from math import gcd

from simulation import FAR, LIMIT, Case, Simulation, kind_cases, long_simulation, random_cases, wide_cases
from warmswitch.rooms import Heater, Room
from warmswitch.weathers import Weather


class LongRunTestCase(unittest.TestCase):

    def state(self, room, tick):
        return room.temperature(tick), room.is_on(tick)

    def assert_like_simulation(self, case):
        """Compare with a simulation that is long enough for a repetition, if there is one."""
        simulation = long_simulation(case)
        room = case.room()
        expected = simulation.repetition(case)
        self.assertEqual(room.repetition, expected, case)
        if expected is None:
            self.assert_for_ever(case, room)
            return
        first, period = expected
        degrees = simulation.degrees[:first + period]
        lowest, highest = min(degrees), max(degrees)
        self.assertEqual(room.lowest, (lowest, degrees.index(lowest)), case)
        self.assertEqual(room.highest, (highest, degrees.index(highest)), case)
        heated = sum(simulation.heated[first:first + period])
        common = gcd(heated, period)
        self.assertEqual(room.heating_share, (heated // common, period // common), case)

    def assert_for_ever(self, case, room):
        """Compare with a simulation until the heater stays as it is for ever."""
        last = room.switchings(FAR)
        begin = room.nth_switching(last) if last > 0 else 0
        self.assertIsNone(room.nth_switching(last + 1), case)
        many = len(case.changes)
        on = room.is_on(FAR)
        speed = sum(case.changes) + (many * case.gain if on else 0)
        self.assertNotEqual(speed, 0, case)
        self.assertEqual(room.heating_share, (1, 1) if on else (0, 1), case)
        for tick in (begin, begin + 1, FAR - many):
            self.assertEqual(room.temperature(tick + many) - room.temperature(tick), speed, case)
        if begin > 10000:
            return
        degrees = Simulation(case, begin + many).degrees
        lowest, highest = min(degrees), max(degrees)
        self.assertEqual(room.lowest, (lowest, degrees.index(lowest)) if speed > 0 else None, case)
        self.assertEqual(room.highest, (highest, degrees.index(highest)) if speed < 0 else None, case)

    def assert_repeats_exactly(self, case, room):
        """Check the repetition of a room, however long it is, by what it has to fulfil."""
        first, ticks = room.repetition
        many = len(case.changes)
        self.assertEqual(ticks % many, 0, case)
        self.assertGreater(ticks, 0, case)
        for tick in [first + step for step in (0, 1, 2, 24, 777, ticks - 1, ticks, 5 * ticks)]:
            if tick + ticks <= FAR:
                self.assertEqual(self.state(room, tick), self.state(room, tick + ticks), case)
        if first > 0:
            self.assertNotEqual(self.state(room, first - 1), self.state(room, first - 1 + ticks), case)
        for part in range(2, 100):
            if ticks % (part * many) == 0:
                less = ticks // part
                samples = [first + step * ticks // 50 for step in range(50)]
                samples += [first + step for step in range(50)]
                samples += [room.nth_switching(room.switchings(first) + number) or 0 for number in range(1, 60)]
                samples = [tick for tick in samples if tick >= first]
                unlike = [self.state(room, tick) != self.state(room, tick + less) for tick in samples]
                self.assertIn(True, unlike, (case, part))


class NearTest(LongRunTestCase):

    def test_all_kinds(self):
        for case in kind_cases():
            self.assert_like_simulation(case)

    def test_random_ones(self):
        for case in random_cases(8, 400):
            self.assert_like_simulation(case)

    def test_weather_that_is_written_longer(self):
        for case in random_cases(9, 60):
            for times in (2, 3, 4):
                if times * len(case.changes) <= 24:
                    longer = Case(case.changes * times, case.gain, case.low, case.high, case.start, case.on)
                    self.assert_like_simulation(longer)

    def test_from_the_first_tick_on(self):
        for case in random_cases(10, 200):
            room = case.room()
            if room.repetition is not None:
                self.assert_repeats_exactly(case, room)


class WideTest(LongRunTestCase):

    def test_repetitions(self):
        found = 0
        for case in wide_cases():
            room = case.room()
            if room.repetition is None:
                self.assert_for_ever(case, room)
            else:
                self.assert_repeats_exactly(case, room)
                found += 1
        self.assertGreater(found, 100)

    def test_shares(self):
        for case in wide_cases():
            room = case.room()
            heated, of = room.heating_share
            self.assertEqual(gcd(heated, of), 1, case)
            if room.repetition is not None:
                first, ticks = room.repetition
                inside = room.heating_ticks(first + ticks) - room.heating_ticks(first)
                self.assertEqual(inside * of, heated * ticks, case)

    def test_extremes(self):
        for case in wide_cases():
            room = case.room()
            ticks = list(range(60)) + list(range(FAR - 60, FAR + 1))
            for number in range(1, 30):
                switching = room.nth_switching(number) or 0
                ticks += range(max(0, switching - 30), min(FAR, switching + 30))
            degrees = [(room.temperature(tick), tick) for tick in ticks]
            for extreme, sign in ((room.lowest, 1), (room.highest, -1)):
                if extreme is not None:
                    self.assertEqual(room.temperature(extreme[1]), extreme[0], case)
                    best = min((sign * here, tick) for here, tick in degrees)
                    self.assertLessEqual((sign * extreme[0], extreme[1]), best, case)
                    if extreme[1] in ticks:
                        self.assertEqual((sign * extreme[0], extreme[1]), best, case)
                else:
                    self.assertIsNone(room.repetition, case)
                    self.assertLess(sign * (room.temperature(FAR) - room.temperature(FAR // 2)), 0, case)


class KnownTest(unittest.TestCase):

    def told(self, room):
        return room.repetition, room.heating_share, room.lowest, room.highest

    def test_known_rooms(self):
        for room, told in (
            (Room(Weather(0), Heater(1, 0, 0), 0), ((0, 1), (0, 1), (0, 0), (0, 0))),
            (Room(Weather(0), Heater(1, 0, 0), -2), ((3, 1), (0, 1), (-2, 0), (1, 3))),
            (Room(Weather(0, 0), Heater(1, 0, 0), 5, on=True), ((0, 2), (0, 1), (5, 0), (5, 0))),
            (Room(Weather(-1), Heater(1, 0, 9), 0, on=True), ((0, 1), (1, 1), (0, 0), (0, 0))),
            (Room(Weather(-1), Heater(1, 0, 9), 2), ((3, 1), (1, 1), (-1, 3), (2, 0))),
            (Room(Weather(3), Heater(1, 0, 9), -4), (None, (0, 1), (-4, 0), None)),
            (Room(Weather(-9), Heater(8, 0, 9), 4), (None, (1, 1), None, (4, 0))),
            (Room(Weather(5, -4), Heater(8, 0, 9), 1, on=True), (None, (0, 1), (1, 0), None)),
            (Room(Weather(-1), Heater(3, -LIMIT, LIMIT), LIMIT),
             ((0, 3 * LIMIT + 3), (1, 3), (-LIMIT - 1, 2 * LIMIT + 1), (LIMIT + 1, 3 * LIMIT + 2))),
        ):
            self.assertEqual(self.told(room), told)

    def test_a_lone_way_to_the_repetition(self):
        # In tick 95 the heater does not go off, as in tick 104, but it is off.
        room = Room(Weather(-1), Heater(3, 0, 4), 100)
        self.assertEqual(room.repetition, (95, 9))
        self.assertEqual((room.temperature(95), room.temperature(104)), (5, 5))
        self.assertEqual((room.temperature(94), room.temperature(103)), (6, 3))
        self.assertEqual(room.lowest, (-1, 101))
        self.assertEqual(room.highest, (100, 0))


if __name__ == "__main__":
    unittest.main()
