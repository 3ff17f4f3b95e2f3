"""Points 1 and 5: rooms."""

import inspect
import unittest

from simulation import FAR, LIMIT, Case, Simulation, kind_cases, random_cases, wide_cases
from warmswitch.errors import InvalidHeater, InvalidNumber
from warmswitch.rooms import Heater, Room
from warmswitch.weathers import Weather

NEAR = 120


class NearTest(unittest.TestCase):

    def assert_like_simulation(self, case, ticks):
        simulation = Simulation(case, ticks)
        room = case.room()
        degrees = [room.temperature(tick) for tick in range(ticks)]
        self.assertEqual(degrees, simulation.degrees, case)
        self.assertEqual([room.is_on(tick) for tick in range(ticks)], simulation.heated, case)
        self.assertEqual(list(room.temperatures(0, ticks - 1)), simulation.degrees, case)
        heated = [room.heating_ticks(count) for count in range(ticks + 1)]
        self.assertEqual(heated, [sum(simulation.heated[:count]) for count in range(ticks + 1)], case)
        before = [room.switchings(count) for count in range(ticks + 1)]
        expected = [len([tick for tick in simulation.switchings if tick < count])
                    for count in range(ticks + 1)]
        self.assertEqual(before, expected, case)
        many = len(simulation.switchings)
        numbered = [room.nth_switching(number) for number in range(1, many + 1)]
        self.assertEqual(numbered, simulation.switchings, case)
        after = room.nth_switching(many + 1)
        self.assertTrue(after is None or after >= ticks, case)

    def test_all_kinds(self):
        for case in kind_cases():
            self.assert_like_simulation(case, NEAR)

    def test_random_ones(self):
        for case in random_cases(2, 150):
            self.assert_like_simulation(case, 600)

    def test_on_and_off_are_booleans(self):
        for case in random_cases(3, 20):
            room = case.room()
            for tick in (0, 1, 2, 30, FAR):
                self.assertIn(room.is_on(tick), (True, False))
                self.assertIs(type(room.is_on(tick)), bool)

    def test_switching_in_tick_0(self):
        heater = Heater(4, 18, 20)
        for start, on, switchings in ((17, False, 1), (17, True, 0), (18, False, 0), (18, True, 0),
                                      (20, False, 0), (20, True, 0), (21, False, 0), (21, True, 1)):
            room = Room(Weather(0), heater, start, on=on)
            self.assertEqual((room.switchings(0), room.switchings(1)), (0, switchings))
            self.assertEqual(room.nth_switching(1) == 0, switchings == 1)

    def test_no_more_switchings(self):
        room = Room(Weather(1), Heater(4, 18, 20), 17)
        self.assertEqual([room.nth_switching(number) for number in (1, 2, 3, FAR)], [0, 1, None, None])
        self.assertEqual(room.switchings(FAR), 2)
        self.assertIsNone(Room(Weather(0), Heater(4, 18, 20), 19).nth_switching(1))

    def test_properties(self):
        weather, heater = Weather(-2, -1, 0), Heater(4, 18, 20)
        room = Room(weather, heater, -7, on=True)
        self.assertEqual(room.weather.changes, (-2, -1, 0))
        self.assertEqual(room.weather, weather)
        self.assertEqual((room.heater.gain, room.heater.low, room.heater.high), (4, 18, 20))
        self.assertEqual(room.start, -7)


class FarTest(unittest.TestCase):

    def assert_steps(self, case, room, first, last):
        for tick in range(first, last):
            here, later = room.temperature(tick), room.temperature(tick + 1)
            on, on_later = room.is_on(tick), room.is_on(tick + 1)
            change = case.changes[tick % len(case.changes)]
            self.assertEqual(later, here + change + (case.gain if on else 0), (case, tick))
            expected = True if later < case.low else (False if later > case.high else on)
            self.assertEqual(on_later, expected, (case, tick))
            heating = room.heating_ticks(tick + 1) - room.heating_ticks(tick)
            self.assertEqual(heating, 1 if on else 0, (case, tick))
            if tick + 2 <= FAR:
                switched = room.switchings(tick + 2) - room.switchings(tick + 1)
                self.assertEqual(switched, 1 if on != on_later else 0, (case, tick))

    def assert_numbers_agree(self, case, room, count):
        many = room.switchings(count)
        if many > 0:
            tick = room.nth_switching(many)
            self.assertLess(tick, count, case)
            self.assertEqual((room.switchings(tick), room.switchings(tick + 1)), (many - 1, many), case)
        after = room.nth_switching(many + 1)
        self.assertTrue(after is None or after >= count, case)
        if after is not None and after < FAR:
            self.assertEqual((room.switchings(after), room.switchings(after + 1)), (many, many + 1), case)

    def test_steps_of_narrow_and_wide_thresholds(self):
        for case in random_cases(4, 80) + wide_cases():
            room = case.room()
            places = [0, 1000, LIMIT, 10 ** 15, FAR - 40]
            places += [room.nth_switching(number) or 3 for number in (1, 2, 3, 4, 5, 40)]
            for place in places:
                first = max(0, min(place - 20, FAR - 40))
                self.assert_steps(case, room, first, first + 40)
                self.assert_numbers_agree(case, room, first)

    def test_near_ticks_of_wide_thresholds(self):
        for case in wide_cases():
            simulation = Simulation(case, 60)
            room = case.room()
            self.assertEqual(list(room.temperatures(0, 59)), simulation.degrees, case)
            self.assertEqual([room.is_on(tick) for tick in range(60)], simulation.heated, case)
            self.assertEqual(room.heating_ticks(60), sum(simulation.heated), case)
            self.assertEqual(room.switchings(60), len(simulation.switchings), case)

    def test_a_way_from_limit_to_limit(self):
        room = Room(Weather(-1), Heater(3, -LIMIT, LIMIT), LIMIT)
        self.assertEqual(room.nth_switching(1), 2 * LIMIT + 1)
        self.assertEqual(room.temperature(2 * LIMIT + 1), -LIMIT - 1)
        # From there it takes (2 * LIMIT + 2) / 2 ticks to get above the high threshold.
        self.assertEqual(room.nth_switching(2), 3 * LIMIT + 2)
        self.assertEqual(room.temperature(3 * LIMIT + 3), LIMIT)
        self.assertEqual(room.heating_ticks(FAR), room.heating_ticks(FAR - 1) + room.is_on(FAR - 1))

    def test_a_switching_beyond_the_last_tick(self):
        room = Room(Weather(-1, 0), Heater(1, -LIMIT, LIMIT), LIMIT)
        first, ticks = room.repetition
        switchings = room.switchings(first + ticks) - room.switchings(first)
        early = room.nth_switching(FAR % switchings + switchings)
        self.assertEqual(room.nth_switching(FAR), early + (FAR // switchings - 1) * ticks)
        self.assertGreater(room.nth_switching(FAR), 10 ** 29)

    def test_for_ever_in_one_direction(self):
        room = Room(Weather(5), Heater(200, 18, 20), LIMIT)
        self.assertEqual(room.temperature(FAR), LIMIT + 5 * FAR)
        self.assertEqual((room.heating_ticks(FAR), room.switchings(FAR)), (0, 0))
        room = Room(Weather(-100), Heater(1, 18, 20), -LIMIT)
        self.assertEqual(room.temperature(FAR), -LIMIT - 99 * FAR)
        self.assertEqual((room.heating_ticks(FAR), room.switchings(FAR)), (FAR, 1))


class TemperaturesTest(unittest.TestCase):

    def setUp(self):
        self.room = Room(Weather(-2, -1, 0), Heater(4, 18, 20), 20)

    def test_parts(self):
        for first, last in ((0, 0), (5, 5), (3, 40), (FAR, FAR), (FAR - 7, FAR), (123, 10122)):
            expected = [self.room.temperature(tick) for tick in range(first, last + 1)]
            self.assertEqual(list(self.room.temperatures(first, last)), expected)

    def test_the_greatest_number(self):
        self.assertEqual(len(list(self.room.temperatures(0, 9999))), 10000)
        self.assertEqual(len(list(self.room.temperatures(FAR - 9999, FAR))), 10000)

    def test_errors_come_when_the_iteration_begins(self):
        for first, last in ((1, 0), (-1, 5), (-1, -1), (0, 10000), (FAR - 10000, FAR), (5, FAR + 1),
                            (FAR, FAR + 1), (FAR + 1, FAR + 1), (0, FAR), (7, -1)):
            generator = self.room.temperatures(first, last)
            self.assertTrue(inspect.isgenerator(generator))
            with self.assertRaises(InvalidNumber):
                next(generator)
        self.assertEqual(list(self.room.temperatures(0, 2)), [20, 18, 17])


class NumbersTest(unittest.TestCase):

    def test_starts(self):
        weather, heater = Weather(-1), Heater(3, 18, 21)
        for start in (-LIMIT, 0, LIMIT):
            self.assertEqual(Room(weather, heater, start).temperature(0), start)
        for start in (-LIMIT - 1, LIMIT + 1, 10 ** 5000):
            with self.assertRaises(InvalidNumber) as caught:
                Room(weather, heater, start)
            self.assertIs(type(caught.exception), InvalidNumber)

    def test_ticks_and_counts(self):
        room = Room(Weather(-1), Heater(3, 18, 21), 20)
        for call in (room.temperature, room.is_on, room.heating_ticks, room.switchings):
            call(0)
            call(FAR)
            for number in (-1, FAR + 1, 10 ** 5000):
                with self.assertRaises(InvalidNumber):
                    call(number)
        room.nth_switching(1)
        room.nth_switching(FAR)
        for number in (0, -1, FAR + 1):
            with self.assertRaises(InvalidNumber):
                room.nth_switching(number)


class AgainTest(unittest.TestCase):

    def answers(self, room):
        return [room.temperature(9), room.is_on(7), room.heating_ticks(12), room.switchings(12),
                room.nth_switching(3), list(room.temperatures(0, 20)), room.repetition,
                room.heating_share, room.lowest, room.highest, room.start, room.weather.changes,
                room.heater.low]

    def test_the_same_again_and_again(self):
        weather, heater = Weather(-2, -1, 0), Heater(4, 18, 20)
        room = Room(weather, heater, 20)
        first = self.answers(room)
        for _ in range(3):
            list(room.temperatures(0, 9)).clear()
            self.wrong_calls(room)
            self.assertEqual(self.answers(room), first)
            self.assertEqual(self.answers(Room(weather, heater, 20)), first)
        self.assertEqual(weather.changes, (-2, -1, 0))
        self.assertEqual((heater.gain, heater.low, heater.high), (4, 18, 20))

    def wrong_calls(self, room):
        for call, number in ((room.temperature, -1), (room.is_on, FAR + 1), (room.heating_ticks, -1),
                             (room.switchings, -1), (room.nth_switching, 0)):
            with self.assertRaises(InvalidNumber):
                call(number)
        with self.assertRaises(InvalidNumber):
            list(room.temperatures(3, 2))
        with self.assertRaises(InvalidHeater):
            room.heater.moved(2 * LIMIT)

    def test_two_iterations_at_once(self):
        room = Room(Weather(-2, -1, 0), Heater(4, 18, 20), 20)
        pairs = list(zip(room.temperatures(0, 20), room.temperatures(5, 25)))
        self.assertEqual(pairs, [(room.temperature(tick), room.temperature(tick + 5)) for tick in range(21)])


class CorrespondingTest(unittest.TestCase):

    def assert_corresponding(self, case, ticks, degrees_of, on_of, rooms, later=0):
        one, other = rooms
        for tick in ticks:
            self.assertEqual(other.temperature(tick), degrees_of(one.temperature(tick + later)), case)
            self.assertEqual(other.is_on(tick), on_of(one.is_on(tick + later)), case)
            if later == 0:
                self.assertEqual(other.switchings(tick), one.switchings(tick), case)

    def test_moved(self):
        ticks = list(range(40)) + list(range(FAR - 30, FAR))
        for case in random_cases(5, 60):
            for by in (-1000, 7, LIMIT - 1000):
                moved = Case(case.changes, case.gain, case.low + by, case.high + by, case.start + by, case.on)
                one, other = case.room(), moved.room()
                self.assert_corresponding(case, ticks, lambda degrees: degrees + by, lambda on: on, (one, other))
                self.assertEqual(other.repetition, one.repetition, case)
                self.assertEqual(other.heating_share, one.heating_share, case)
                for name in ("lowest", "highest"):
                    here, there = getattr(one, name), getattr(other, name)
                    expected = None if here is None else (here[0] + by, here[1])
                    self.assertEqual(there, expected, case)
                self.assertEqual(other.heating_ticks(FAR), one.heating_ticks(FAR), case)
                self.assertEqual(other.nth_switching(77), one.nth_switching(77), case)

    def test_begun_later(self):
        for case in random_cases(6, 60) + wide_cases()[::7]:
            one = case.room()
            for later in (1, 2, 25, 1000):
                if abs(one.temperature(later)) > LIMIT:
                    continue
                other = Room(one.weather.later(later), one.heater, one.temperature(later),
                             on=one.is_on(later - 1))
                ticks = list(range(40)) + list(range(FAR - later - 30, FAR - later))
                self.assert_corresponding(case, ticks, lambda degrees: degrees, lambda on: on, (one, other), later)
                counted = one.switchings(FAR) - one.switchings(later)
                self.assertEqual(other.switchings(FAR - later), counted, case)
                heated = one.heating_ticks(FAR) - one.heating_ticks(later)
                self.assertEqual(other.heating_ticks(FAR - later), heated, case)
                self.assertEqual(other.heating_share, one.heating_share, case)
                if one.repetition is None:
                    self.assertIsNone(other.repetition, case)
                else:
                    first, ticks = one.repetition
                    self.assertEqual(other.repetition, (max(0, first - later), ticks), case)

    def test_turned_round(self):
        ticks = list(range(40)) + list(range(FAR - 30, FAR))
        for case in random_cases(7, 120) + wide_cases():
            changes = [-change - case.gain for change in case.changes]
            if min(changes) < -100:
                continue
            turned = Case(changes, case.gain, -case.high, -case.low, -case.start, not case.on)
            one, other = case.room(), turned.room()
            self.assert_corresponding(case, ticks, lambda degrees: -degrees, lambda on: not on, (one, other))
            self.assertEqual(other.repetition, one.repetition, case)
            self.assertEqual(other.heating_ticks(FAR), FAR - one.heating_ticks(FAR), case)
            on, of = one.heating_share
            self.assertEqual(other.heating_share, (of - on, of), case)
            for name, opposite in (("lowest", "highest"), ("highest", "lowest")):
                here, there = getattr(one, name), getattr(other, opposite)
                self.assertEqual(there, None if here is None else (-here[0], here[1]), case)


if __name__ == "__main__":
    unittest.main()
