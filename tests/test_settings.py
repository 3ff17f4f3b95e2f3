"""Points 10 and 11: settings, and what comes of them tick by tick."""

import inspect
import random
import unittest

from simulation import LIMIT
from warmswitch.errors import InvalidNumber, InvalidSetting
from warmswitch.settings import HourSetting, RestSetting, Setting, totals, watch
from warmswitch.weathers import Weather


class Kind:
    """What a setting is made of, in the words of the document: its thresholds by tick, and its rest."""

    def __init__(self, setting, thresholds, rest=None):
        self.setting = setting
        self.thresholds = thresholds
        self.rest = rest


def plain(low, high):
    return Kind(Setting(low, high), lambda tick: (low, high))


def resting(low, high, rest):
    return Kind(RestSetting(low, high, rest=rest), lambda tick: (low, high), rest)


def hours(length, *parts):
    def thresholds(tick):
        for begin, low, high in reversed(parts):
            if begin <= tick % length:
                return low, high
    return Kind(HourSetting(length, *parts), thresholds)


def simulated(changes, gain, kind, start, count):
    """The rows that `watch` is to yield, and the number of switchings."""
    rows, switchings = [], []
    degrees, on = start, False
    for tick in range(count):
        low, high = kind.thresholds(tick)
        free = not switchings or kind.rest is None or tick >= switchings[-1] + kind.rest + 1
        if degrees < low and not on and free:
            on = True
            switchings.append(tick)
        elif degrees > high and on and free:
            on = False
            switchings.append(tick)
        rows.append((degrees, on))
        degrees += changes[tick % len(changes)]
        if on:
            degrees += gain
    return rows, len(switchings)


def random_kind(chance):
    low = chance.randint(-20, 20)
    high = low + chance.choice((0, 1, 5, 40))
    number = chance.randrange(3)
    if number == 0:
        return plain(low, high)
    if number == 1:
        return resting(low, high, chance.choice((0, 1, 2, 7, 30, 1000)))
    length = chance.randint(1, 24)
    begins = [0] + sorted(chance.sample(range(1, length), chance.randint(0, min(3, length - 1))))
    parts = []
    for begin in begins:
        below = chance.randint(-30, 30)
        parts.append((begin, below, below + chance.choice((0, 2, 9))))
    return hours(length, *parts)


class SettingTest(unittest.TestCase):

    def assert_invalid(self, index, call, *arguments, **named):
        with self.assertRaises(InvalidSetting) as caught:
            call(*arguments, **named)
        self.assertIs(type(caught.exception), InvalidSetting)
        self.assertEqual(caught.exception.index, index, (arguments, named))

    def test_class_values(self):
        self.assertEqual([Setting.KIND, HourSetting.KIND, RestSetting.KIND], ["plain", "hours", "rest"])
        self.assertEqual([Setting(1, 2).KIND, HourSetting(1, (0, 1, 2)).KIND, RestSetting(1, 2, rest=3).KIND],
                         ["plain", "hours", "rest"])
        self.assertEqual(HourSetting.MAX_LENGTH, 24)

    def test_all_are_settings(self):
        for setting in (Setting(1, 2), HourSetting(1, (0, 1, 2)), RestSetting(1, 2, rest=3)):
            self.assertIsInstance(setting, Setting)
        self.assertNotIsInstance(RestSetting(1, 2, rest=3), HourSetting)
        self.assertNotIsInstance(HourSetting(1, (0, 1, 2)), RestSetting)

    def test_thresholds_that_always_hold(self):
        for low, high in ((18, 20), (5, 5), (-LIMIT, LIMIT), (-LIMIT, -LIMIT), (LIMIT, LIMIT)):
            for setting in (Setting(low, high), RestSetting(low, high, rest=7)):
                for tick in (0, 1, 23, 24, 1000, 10 ** 18):
                    self.assertEqual(setting.thresholds(tick), (low, high))

    def test_thresholds_by_hour(self):
        setting = HourSetting(24, (0, 16, 18), (7, 19, 21), (22, 16, 17))
        for day in (0, 1, 1000, 10 ** 15):
            found = [setting.thresholds(24 * day + hour) for hour in range(24)]
            self.assertEqual(found, [(16, 18)] * 7 + [(19, 21)] * 15 + [(16, 17)] * 2)

    def test_thresholds_by_hour_of_a_short_day(self):
        setting = HourSetting(5, (0, -3, -3), (4, 50, 60))
        self.assertEqual([setting.thresholds(tick) for tick in range(6)],
                         [(-3, -3)] * 4 + [(50, 60), (-3, -3)])
        self.assertEqual(setting.thresholds(10 ** 18 + 4), (50, 60))
        self.assertEqual(HourSetting(1, (0, 1, 2)).thresholds(77), (1, 2))

    def test_a_part_for_each_hour(self):
        parts = [(hour, hour, 2 * hour) for hour in range(24)]
        setting = HourSetting(24, *parts)
        self.assertEqual([setting.thresholds(tick) for tick in range(48)],
                         [(hour, 2 * hour) for hour in range(24)] * 2)

    def test_thresholds_are_a_tuple(self):
        for setting in (Setting(1, 2), HourSetting(1, (0, 1, 2)), RestSetting(1, 2, rest=3)):
            self.assertIs(type(setting.thresholds(0)), tuple)

    def test_invalid_thresholds(self):
        for low, high in ((2, 1), (-LIMIT - 1, 0), (0, LIMIT + 1), (LIMIT + 1, LIMIT + 1),
                          (-LIMIT - 1, -LIMIT - 1), (-10 ** 5000, 10 ** 5000)):
            self.assert_invalid(0, Setting, low, high)
            self.assert_invalid(0, RestSetting, low, high, rest=3)
            self.assert_invalid(0, HourSetting, 24, (0, low, high))
            self.assert_invalid(1, HourSetting, 24, (0, 1, 2), (5, low, high))

    def test_rests(self):
        for rest in (0, 1, 1000):
            self.assertEqual(RestSetting(1, 2, rest=rest).thresholds(0), (1, 2))
        for rest in (-1, 1001, 10 ** 5000):
            self.assert_invalid(1, RestSetting, 1, 2, rest=rest)
            self.assert_invalid(0, RestSetting, 2, 1, rest=rest)

    def test_lengths(self):
        for length in (1, 2, 23, 24):
            self.assertEqual(HourSetting(length, (0, 1, 2)).thresholds(length), (1, 2))
        for length in (0, -1, 25, 10 ** 5000):
            self.assert_invalid(-1, HourSetting, length, (0, 1, 2))
            self.assert_invalid(-1, HourSetting, length)
            self.assert_invalid(-1, HourSetting, length, (0, 2, 1))

    def test_invalid_parts(self):
        first, second = (0, 16, 18), (7, 19, 21)
        self.assert_invalid(0, HourSetting, 24)
        for index, parts in (
            (0, [(1, 16, 18)]), (0, [(-1, 16, 18)]), (0, [(24, 16, 18)]), (0, [(1, 16, 18), second]),
            (0, [(-1, 16, 18), (0, 19, 21)]),
            (1, [first, (0, 19, 21)]), (1, [first, (-1, 19, 21)]), (1, [first, (24, 19, 21)]),
            (1, [first, (100, 19, 21)]), (2, [first, second, (7, 1, 2)]), (2, [first, second, (6, 1, 2)]),
            (2, [first, second, (24, 1, 2)]), (2, [first, second, (8, 2, 1)]),
            (1, [first, (7, 2, 1), (8, 2, 1)]), (0, [(0, 2, 1), (0, 2, 1)]),
            (3, [first, (1, 0, 0), (2, 0, 0), (2, 0, 0), (1, 0, 0)]),
        ):
            self.assert_invalid(index, HourSetting, 24, *parts)
        self.assert_invalid(1, HourSetting, 7, first, second)
        self.assert_invalid(1, HourSetting, 1, first, (1, 19, 21))
        self.assertEqual(HourSetting(8, first, second).thresholds(7), (19, 21))


class WatchTest(unittest.TestCase):

    def assert_like_simulation(self, changes, gain, kind, start, count):
        weather = Weather(*changes)
        rows, switchings = simulated(changes, gain, kind, start, count)
        case = (changes, gain, kind.setting.KIND, kind.rest, kind.thresholds(0), start, count)
        self.assertEqual(list(watch(weather, gain, kind.setting, start, count)), rows, case)
        heated = len([degrees for degrees, on in rows if on])
        least = min([degrees for degrees, _ in rows]) if rows else None
        self.assertEqual(totals(weather, gain, kind.setting, start, count), (heated, switchings, least), case)

    def test_random_ones(self):
        chance = random.Random(10)
        for _ in range(400):
            size = chance.choice((1, 2, 3, 7, 24))
            most = chance.choice((2, 9, 100))
            changes = tuple(chance.randint(-most, most) for _ in range(size))
            gain = chance.choice((1, 3, most, 200))
            self.assert_like_simulation(changes, gain, random_kind(chance), chance.randint(-60, 60), 150)

    def test_rests_that_matter(self):
        for rest in range(30):
            for low, high in ((18, 18), (18, 21), (0, 60)):
                self.assert_like_simulation((-1,), 3, resting(low, high, rest), 20, 200)
                self.assert_like_simulation((-7, 2, 0), 9, resting(low, high, rest), 0, 200)

    def test_the_first_tick_in_which_a_switching_is_possible(self):
        # The heater goes on in tick 0 and is to go off in tick 1.
        for rest, off in ((0, 1), (1, 2), (2, 3), (1000, 1001)):
            rows = list(watch(Weather(0), 200, RestSetting(1, 1, rest=rest), 0, off + 1))
            self.assertEqual([on for _, on in rows], [True] * off + [False])

    def test_the_first_switching_needs_no_rest(self):
        self.assertEqual(list(watch(Weather(-1), 3, RestSetting(18, 21, rest=1000), 17, 2)),
                         [(17, True), (19, True)])
        self.assertEqual(list(watch(Weather(-1), 3, RestSetting(18, 21, rest=1000), 18, 3)),
                         [(18, False), (17, True), (19, True)])

    def test_within_the_thresholds_the_heater_stays_as_it_was(self):
        # It is to go off in tick 2, may not, and in tick 4 it is not to any more.
        setting = RestSetting(0, 10, rest=5)
        rows = list(watch(Weather(3, 3, -9, -9, 0, 0), 4, setting, -1, 7))
        self.assertEqual(rows, [(-1, True), (6, True), (13, True), (8, True), (3, True), (7, True), (11, False)])

    def test_the_heater_was_off_before(self):
        self.assertEqual(list(watch(Weather(0), 3, Setting(18, 21), 19, 3)), [(19, False)] * 3)
        self.assertEqual(totals(Weather(0), 3, Setting(18, 21), 17, 1), (1, 1, 17))
        self.assertEqual(totals(Weather(0), 3, Setting(18, 21), 22, 1), (0, 0, 22))

    def test_thresholds_themselves_change_nothing(self):
        rows = list(watch(Weather(-1, -1, -1, 0), 1, Setting(0, 0), 1, 6))
        self.assertEqual(rows, [(1, False), (0, False), (-1, True), (-1, True), (0, True), (0, True)])

    def test_wide_thresholds(self):
        for low, high in ((-LIMIT, LIMIT), (LIMIT, LIMIT), (-LIMIT, -LIMIT)):
            for start in (-LIMIT, 0, LIMIT):
                for changes in ((-100,), (100, -1), (0,)):
                    self.assert_like_simulation(changes, 200, plain(low, high), start, 50)
                    self.assert_like_simulation(changes, 1, resting(low, high, 3), start, 50)
                    self.assert_like_simulation(changes, 7, hours(3, (0, low, high), (2, -5, 5)), start, 50)

    def test_many_ticks(self):
        self.assert_like_simulation((-2, -1, 0), 4, plain(18, 20), 20, 10000)
        self.assert_like_simulation((-2, -1, 0), 4, hours(24, (0, 16, 18), (7, 19, 21)), 20, 10000)
        self.assert_like_simulation((-2, -1, 0), 4, resting(18, 20, 1000), 20, 10000)

    def test_no_ticks(self):
        for kind in (plain(18, 20), resting(18, 20, 0), hours(3, (0, 18, 20))):
            self.assertEqual(list(watch(Weather(-1), 3, kind.setting, 20, 0)), [])
            self.assertEqual(totals(Weather(-1), 3, kind.setting, 20, 0), (0, 0, None))

    def test_kinds_of_values(self):
        for kind in (plain(18, 20), resting(18, 20, 1), hours(3, (0, 18, 20))):
            for row in watch(Weather(-1), 3, kind.setting, 19, 12):
                self.assertEqual([type(row), type(row[0]), type(row[1])], [tuple, int, bool])
            self.assertIs(type(totals(Weather(-1), 3, kind.setting, 20, 5)), tuple)

    def test_repeated_calls(self):
        setting = RestSetting(18, 21, rest=4)
        first = list(watch(Weather(-1), 3, setting, 20, 40))
        self.assertEqual(list(watch(Weather(-1), 3, setting, 20, 40)), first)
        self.assertEqual(totals(Weather(-1), 3, setting, 20, 40), totals(Weather(-1), 3, setting, 20, 40))

    def test_numbers_at_their_limits(self):
        for gain, start, count in ((1, -LIMIT, 3), (200, LIMIT, 3), (1, 0, 0), (1, 0, 10000)):
            rows = list(watch(Weather(0), gain, Setting(-LIMIT, LIMIT), start, count))
            self.assertEqual(len(rows), count)
            self.assertEqual(totals(Weather(0), gain, Setting(-LIMIT, LIMIT), start, count),
                             (0, 0, start if count else None))

    def test_numbers_beyond_their_limits(self):
        setting = Setting(18, 20)
        for gain, start, count in (
            (0, 20, 5), (201, 20, 5), (-1, 20, 5), (10 ** 5000, 20, 5), (4, LIMIT + 1, 5), (4, -LIMIT - 1, 5),
            (4, 20, -1), (4, 20, 10001), (4, 20, 10 ** 18), (0, LIMIT + 1, -1), (4, LIMIT + 1, 0), (0, 20, 0),
        ):
            for call in (lambda *given: list(watch(*given)), totals):
                with self.assertRaises(InvalidNumber) as caught:
                    call(Weather(-1), gain, setting, start, count)
                self.assertIs(type(caught.exception), InvalidNumber)

    def test_watch_raises_when_the_iteration_begins(self):
        rows = watch(Weather(-1), 0, Setting(18, 20), 20, 5)
        self.assertTrue(inspect.isgeneratorfunction(watch))
        with self.assertRaises(InvalidNumber):
            next(rows)


if __name__ == "__main__":
    unittest.main()
