"""Points 1 and 9: observers."""

import random
import unittest

from simulation import FAR, LIMIT, Case, Simulation, random_cases, wide_cases
from warmswitch.errors import Contradiction, InvalidHeater, InvalidNumber
from warmswitch.observers import ThresholdObserver
from warmswitch.rooms import Heater, Room
from warmswitch.weathers import Weather

ALL = 2 * LIMIT + 1


def observer_of(case):
    return ThresholdObserver(case.weather(), case.gain, case.start, on=case.on)


def told(observer):
    return observer.low_range, observer.high_range, observer.seen_ticks, observer.records


def see(observer, observation):
    word, tick = observation
    return observer.see_switching(tick) if word == "switching" else observer.see_rest(tick)


def watched(room, ticks, chance):
    """Observations of the first ticks of a room, with rests in between by chance."""
    observations, seen, number = [], 0, 1
    while seen < ticks:
        switching = room.nth_switching(number)
        if switching is None or switching >= ticks:
            switching = ticks
        if switching > seen and chance.random() < 0.5:
            seen = chance.randint(seen, switching - 1)
            observations.append(("rest", seen))
        elif switching < ticks:
            seen = switching
            observations.append(("switching", seen))
            number += 1
        else:
            seen = ticks - 1
            observations.append(("rest", seen))
        seen += 1
    return observations


class TrueObservationsTest(unittest.TestCase):

    def assert_remaining(self, case, observer, counts):
        low_range, high_range = observer.low_range, observer.high_range
        self.assertEqual(counts, (low_range[1] - low_range[0] + 1, high_range[1] - high_range[0] + 1), case)
        self.assertTrue(-LIMIT <= low_range[0] <= case.low <= low_range[1] <= LIMIT, case)
        self.assertTrue(-LIMIT <= high_range[0] <= case.high <= high_range[1] <= LIMIT, case)

    def same_switchings(self, case, low, high, ticks):
        """Whether a room with other thresholds switches in the same ticks; None if there is none."""
        if not -LIMIT <= low <= high <= LIMIT:
            return None
        one = case.room()
        other = Room(case.weather(), Heater(case.gain, low, high), case.start, on=case.on)
        many = one.switchings(ticks)
        if other.switchings(ticks) != many:
            return False
        numbers = list(range(1, min(many, 200) + 1)) + list(range(max(1, many - 200), many + 1))
        return all(one.nth_switching(number) == other.nth_switching(number) for number in numbers)

    def assert_ends(self, case, observer):
        ticks = observer.seen_ticks
        least_low, greatest_low = observer.low_range
        least_high, greatest_high = observer.high_range
        for low in (least_low, greatest_low):
            for high in (least_high, greatest_high):
                self.assertIn(self.same_switchings(case, low, high, ticks), (True, None), case)
        for low in (least_low - 1, greatest_low + 1):
            self.assertIn(self.same_switchings(case, low, max(low, case.high), ticks), (False, None), case)
        for high in (least_high - 1, greatest_high + 1):
            self.assertIn(self.same_switchings(case, min(case.low, high), high, ticks), (False, None), case)

    def test_near(self):
        chance = random.Random(1)
        for case in random_cases(15, 200):
            observer = observer_of(case)
            observations = watched(case.room(), 300, chance)
            for at, observation in enumerate(observations):
                counts = see(observer, observation)
                self.assert_remaining(case, observer, counts)
                self.assertEqual(observer.seen_ticks, observation[1] + 1)
                self.assertEqual(observer.records, observations[:at + 1])
                if at % 5 == 0:
                    self.assert_ends(case, observer)
            self.assert_ends(case, observer)

    def test_rests_tell_the_same_in_parts(self):
        chance = random.Random(2)
        for case in random_cases(16, 100):
            room = case.room()
            one, other = observer_of(case), observer_of(case)
            for observation in watched(room, 200, chance):
                see(one, observation)
            for number in range(1, room.switchings(200) + 1):
                other.see_switching(room.nth_switching(number))
            if other.seen_ticks < 200:
                other.see_rest(199)
            self.assertEqual(told(one)[:3], told(other)[:3], case)

    def test_wide(self):
        for case in wide_cases():
            room = case.room()
            observer = observer_of(case)
            for number in range(1, 8):
                tick = room.nth_switching(number)
                if tick is None:
                    counts = observer.see_rest(FAR - 1)
                else:
                    counts = observer.see_switching(tick)
                self.assert_remaining(case, observer, counts)
                self.assert_ends(case, observer)
                if tick is None:
                    break

    def test_to_the_last_tick(self):
        calm = ThresholdObserver(Weather(2, -2), 5, 7)
        self.assertEqual(calm.see_rest(FAR), (LIMIT + 8, ALL))
        self.assertEqual(told(calm), ((-LIMIT, 7), (-LIMIT, LIMIT), FAR + 1, [("rest", FAR)]))
        for tick in (FAR, FAR + 1, 0):
            for call in (calm.see_rest, calm.see_switching):
                with self.assertRaises(InvalidNumber):
                    call(tick)
        # Tick FAR begins with 9, but the ticks 2, 5, 8 and so on begin with 6, without a switching.
        other = ThresholdObserver(Weather(2, -3, 1), 5, 7)
        with self.assertRaises(Contradiction):
            other.see_switching(FAR)
        self.assertEqual(other.see_rest(FAR), (LIMIT + 7, ALL))


class SearchTest(unittest.TestCase):
    """All thresholds that can matter are tried out one by one."""

    def agreeing(self, case, observations, lows):
        """The pairs of thresholds with which a room switches as it was seen."""
        last = observations[-1][1]
        wanted = [tick for word, tick in observations if word == "switching"]
        pairs = []
        for low in lows:
            for high in lows:
                if low <= high:
                    tried = Case(case.changes, case.gain, low, high, case.start, case.on)
                    if Simulation(tried, last + 1).switchings == wanted:
                        pairs.append((low, high))
        return pairs

    def test_contradictions_just_if_no_thresholds_agree(self):
        chance = random.Random(3)
        contradictions = accepted = 0
        for _ in range(150):
            changes = [chance.randint(-3, 3) for _ in range(chance.choice((1, 2, 3)))]
            start = chance.randint(-3, 3)
            case = Case(changes, chance.randint(1, 3), 0, 0, start, chance.random() < 0.5)
            observer = observer_of(case)
            while observer.seen_ticks < 5:
                word = chance.choice(("switching", "switching", "rest"))
                observation = (word, observer.seen_ticks + chance.choice((0, 0, 1, 2)))
                before = told(observer)
                # Temperatures are at most 40 away from 0 here: so thresholds beyond are alike.
                pairs = self.agreeing(case, before[3] + [observation], range(-41, 42, 1))
                if pairs:
                    see(observer, observation)
                    accepted += 1
                    self.assert_ranges(observer, pairs)
                else:
                    with self.assertRaises(Contradiction):
                        see(observer, observation)
                    contradictions += 1
                    self.assertEqual(told(observer), before)
                    break
        self.assertGreater(contradictions, 40)
        self.assertGreater(accepted, 100)

    def assert_ranges(self, observer, pairs):
        """Each range contains all that agree; its ends agree if any other threshold fits them."""
        low_range, high_range = observer.low_range, observer.high_range
        lows, highs = [low for low, _ in pairs], [high for _, high in pairs]
        inside = [max(-41, low_range[0]), min(41, low_range[1])]
        self.assertEqual(min(lows), inside[0])
        self.assertEqual(max(lows), min(inside[1], min(41, high_range[1])))
        inside = [max(-41, high_range[0]), min(41, high_range[1])]
        self.assertEqual(max(highs), inside[1])
        self.assertEqual(min(highs), max(inside[0], max(-41, low_range[0])))


class ContradictionTest(unittest.TestCase):

    def assert_contradiction(self, observer, call, tick):
        before = told(observer)
        with self.assertRaises(Contradiction) as caught:
            call(tick)
        self.assertIs(type(caught.exception), Contradiction)
        self.assertEqual(told(observer), before)

    def test_each_range(self):
        falling = ThresholdObserver(Weather(-1), 3, 20)
        falling.see_rest(5)
        self.assertEqual(told(falling), ((-LIMIT, 15), (-LIMIT, LIMIT), 6, [("rest", 5)]))
        self.assertEqual(falling.see_switching(6), (1, ALL))
        self.assertEqual(falling.low_range, (15, 15))
        # The temperatures are now 16, 18, 20 and 22.
        self.assertEqual(falling.see_rest(10), (1, LIMIT - 22 + 1))
        self.assertEqual(falling.high_range, (22, LIMIT))
        self.assertEqual(falling.see_switching(11), (1, 2))
        self.assertEqual(falling.high_range, (22, 23))
        # It falls from 24 in tick 11 to 14 in tick 21, and has to go on there just as in tick 6.
        self.assert_contradiction(falling, falling.see_switching, 12)
        self.assert_contradiction(falling, falling.see_rest, 21)
        self.assert_contradiction(falling, falling.see_rest, FAR)
        self.assertEqual(falling.see_switching(21), (1, 2))
        self.assertEqual(told(falling), ((15, 15), (22, 23), 22, [
            ("rest", 5), ("switching", 6), ("rest", 10), ("switching", 11), ("switching", 21)]))

    def test_low_greater_than_high(self):
        observer = ThresholdObserver(Weather(-1), 3, 20)
        observer.see_switching(0)
        self.assertEqual(told(observer)[:2], ((21, LIMIT), (-LIMIT, LIMIT)))
        # It is off above 21 only if the high threshold is at most 21: then both are 21.
        self.assertEqual(observer.see_switching(1), (LIMIT - 20, LIMIT + 22))
        self.assertEqual(told(observer)[:2], ((21, LIMIT), (-LIMIT, 21)))
        other = ThresholdObserver(Weather(-2), 3, 20)
        other.see_switching(0)
        # The high threshold would be at most 20, and the low one at least 21.
        self.assert_contradiction(other, other.see_switching, 1)
        self.assertEqual(other.see_rest(1), (LIMIT - 20, LIMIT - 20))

    def test_beyond_the_greatest_threshold(self):
        warm = ThresholdObserver(Weather(0), 1, LIMIT)
        self.assert_contradiction(warm, warm.see_switching, 0)
        self.assertEqual(warm.see_rest(0), (ALL, ALL))
        hot = ThresholdObserver(Weather(1), 1, LIMIT - 2, on=True)
        # In tick 2, the temperature is LIMIT + 2, above all high thresholds.
        self.assert_contradiction(hot, hot.see_rest, 2)
        self.assertEqual(hot.see_rest(1), (ALL, 1))
        self.assertEqual(hot.high_range, (LIMIT, LIMIT))
        self.assertEqual(hot.see_switching(2), (ALL, 1))

    def test_beyond_the_least_threshold(self):
        cold = ThresholdObserver(Weather(0), 1, -LIMIT, on=True)
        self.assert_contradiction(cold, cold.see_switching, 0)
        self.assertEqual(cold.see_rest(0), (ALL, ALL))
        colder = ThresholdObserver(Weather(-2), 1, 2 - LIMIT)
        # In tick 2, the temperature is -LIMIT - 2, below all low thresholds.
        self.assert_contradiction(colder, colder.see_rest, 2)
        self.assertEqual(colder.see_rest(1), (1, ALL))
        self.assertEqual(colder.low_range, (-LIMIT, -LIMIT))
        self.assertEqual(colder.see_switching(2), (1, ALL))

    def test_after_contradictions_all_goes_on(self):
        contradictions = 0
        for case in random_cases(17, 60):
            one, other = observer_of(case), observer_of(case)
            for observation in watched(case.room(), 120, random.Random(4)):
                for wrong in self.contradictions(case, one):
                    with self.assertRaises(Contradiction):
                        see(one, wrong)
                    contradictions += 1
                for tick in (one.seen_ticks - 1, FAR + 1):
                    with self.assertRaises(InvalidNumber):
                        see(one, (observation[0], tick))
                self.assertEqual(see(one, observation), see(other, observation))
                self.assertEqual(told(one), told(other))
        self.assertGreater(contradictions, 100)

    def contradictions(self, case, observer):
        """Those of some observations that another observer with the same records does not accept."""
        found = []
        seen = observer.seen_ticks
        for observation in (("rest", FAR), ("switching", FAR), ("switching", seen), ("switching", seen + 1)):
            other = observer_of(case)
            for record in observer.records:
                see(other, record)
            try:
                see(other, observation)
            except Contradiction:
                found.append(observation)
        return found


class NumbersTest(unittest.TestCase):

    def test_limits(self):
        for gain in (1, 200):
            for start in (-LIMIT, 0, LIMIT):
                for on in (False, True):
                    observer = ThresholdObserver(Weather(-1), gain, start, on=on)
                    self.assertEqual(told(observer), ((-LIMIT, LIMIT), (-LIMIT, LIMIT), 0, []))

    def test_beyond_the_limits(self):
        weather = Weather(-1)
        for gain, start, error in (
            (0, 0, InvalidHeater), (201, 0, InvalidHeater), (0, LIMIT + 1, InvalidHeater),
            (201, -LIMIT - 1, InvalidHeater), (1, LIMIT + 1, InvalidNumber), (200, -LIMIT - 1, InvalidNumber),
        ):
            with self.assertRaises(error) as caught:
                ThresholdObserver(weather, gain, start)
            self.assertIs(type(caught.exception), error)

    def test_ticks(self):
        observer = ThresholdObserver(Weather(0), 1, 5)
        for tick in (-1, FAR + 1, -FAR):
            for call in (observer.see_switching, observer.see_rest):
                with self.assertRaises(InvalidNumber) as caught:
                    call(tick)
                self.assertIs(type(caught.exception), InvalidNumber)
        self.assertEqual(observer.see_rest(0), (LIMIT + 6, ALL))
        self.assertEqual(observer.see_rest(7), (LIMIT + 6, ALL))
        for tick in (0, 6, 7):
            for call in (observer.see_switching, observer.see_rest):
                with self.assertRaises(InvalidNumber):
                    call(tick)
        self.assertEqual(observer.records, [("rest", 0), ("rest", 7)])
        self.assertEqual(observer.seen_ticks, 8)
        # A tick that is wrong is told before a contradiction.
        with self.assertRaises(InvalidNumber):
            observer.see_switching(7)
        with self.assertRaises(Contradiction):
            observer.see_switching(8)

    def test_a_switching_in_tick_0(self):
        off = ThresholdObserver(Weather(-1), 3, 20)
        self.assertEqual(off.see_switching(0), (LIMIT - 20, ALL))
        self.assertEqual(told(off), ((21, LIMIT), (-LIMIT, LIMIT), 1, [("switching", 0)]))
        on = ThresholdObserver(Weather(-1), 3, 20, on=True)
        self.assertEqual(on.see_switching(0), (ALL, LIMIT + 20))
        self.assertEqual(told(on), ((-LIMIT, LIMIT), (-LIMIT, 19), 1, [("switching", 0)]))


class AgainTest(unittest.TestCase):

    def test_changed_lists(self):
        observer = ThresholdObserver(Weather(-2, -1, 0), 4, 20)
        observer.see_switching(2)
        for _ in range(3):
            records = observer.records
            self.assertEqual(records, [("switching", 2)])
            records.append(("rest", 9))
            records[0] = None
            self.assertEqual(told(observer), ((18, 18), (-LIMIT, LIMIT), 3, [("switching", 2)]))
        self.assertEqual(observer.see_rest(3), (1, LIMIT - 21 + 1))

    def test_two_observers_of_the_same_weather(self):
        weather = Weather(-2, -1, 0)
        one, other = ThresholdObserver(weather, 4, 20), ThresholdObserver(weather, 4, 20)
        one.see_switching(2)
        self.assertEqual(told(other), ((-LIMIT, LIMIT), (-LIMIT, LIMIT), 0, []))
        self.assertEqual(weather.changes, (-2, -1, 0))


if __name__ == "__main__":
    unittest.main()
