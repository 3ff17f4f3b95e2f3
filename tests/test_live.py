"""Points 14 and 15: live rooms, their replays, and attempts."""

import random
import unittest

from simulation import FAR, LIMIT, random_cases, wide_cases
from warmswitch.errors import InvalidNumber, InvalidOperation, InvalidWeather
from warmswitch.live import Attempt, LiveRoom
from warmswitch.rooms import Heater, Room
from warmswitch.weathers import Weather

MOST_WAITED = 10 ** 15
HORIZON = 400


class Model:
    """A live room tick by tick: it forgets nothing and takes all its steps anew from tick 0."""

    def __init__(self, weather, heater, start, on=False):
        self.made = weather, heater, start, on
        self.operations = []

    def steps(self, ahead=0):
        """The state (tick, degrees, on, heated) now, and the first switching in the ticks ahead."""
        weather, heater, degrees, on = self.made
        weathers = [weather.changes]
        tick = heated = 0
        for name, argument in self.operations + [("look", ahead)]:
            if name == "set_heater":
                heater = argument
            elif name == "add_weather":
                weathers.append(argument.changes)
            else:
                state = tick, degrees, on, heated
                for _ in range(argument):
                    before = on
                    if degrees < heater.low:
                        on = True
                    elif degrees > heater.high:
                        on = False
                    if name == "look" and on != before:
                        return state, tick
                    heated += on
                    degrees += sum(changes[tick % len(changes)] for changes in weathers)
                    degrees += heater.gain if on else 0
                    tick += 1
        return state, None


def all_of(live):
    """All that a live room tells."""
    return (live.now, live.warmth, live.is_heated, live.heated_ticks, live.history, live.next_switching())


def random_heater(chance):
    low = chance.randint(-25, 25)
    return Heater(chance.choice((1, 2, 9, 60, 200)), low, low + chance.choice((0, 1, 4, 50)))


def random_weather(chance, most):
    return Weather(*[chance.randint(-most, most) for _ in range(chance.choice((1, 2, 3, 4, 6, 12)))])


class LiveTestCase(unittest.TestCase):

    def assert_fails(self, error, live, call, *arguments):
        """An error of exactly this class, which changes nothing."""
        before = all_of(live)
        with self.assertRaises(error) as caught:
            call(*arguments)
        self.assertIs(type(caught.exception), error)
        self.assertEqual(all_of(live), before)
        return caught.exception

    def assert_like(self, live, model):
        state, switching = model.steps(HORIZON)
        made = model.made[0].changes, model.operations
        self.assertEqual((live.now, live.warmth, live.is_heated, live.heated_ticks), state, made)
        self.assertEqual(live.history, model.operations, made)
        found = live.next_switching()
        if switching is None:
            self.assertTrue(found is None or found >= live.now + HORIZON, made)
        else:
            self.assertEqual(found, switching, made)


class LiveTest(LiveTestCase):

    def random_pair(self, chance):
        made = (random_weather(chance, chance.choice((1, 5, 30))), random_heater(chance), chance.randint(-40, 40))
        on = chance.random() < 0.5
        return LiveRoom(*made, on=on), Model(*made, on)

    def random_operation(self, chance):
        number = chance.randrange(5)
        if number == 0:
            return "set_heater", random_heater(chance)
        if number == 1:
            return "add_weather", random_weather(chance, chance.choice((0, 2, 15)))
        return "wait", chance.choice((0, 1, 1, 2, 3, 10, 24, 77))

    def test_random_operations_and_undos(self):
        chance = random.Random(17)
        for _ in range(150):
            live, model = self.random_pair(chance)
            self.assert_like(live, model)
            for _ in range(10):
                if chance.random() < 0.25:
                    self.assertIs(live.undo(), bool(model.operations))
                    model.operations = model.operations[:-1]
                else:
                    name, argument = self.random_operation(chance)
                    answer = getattr(live, name)(argument)
                    model.operations.append((name, argument))
                    self.assertEqual(answer, model.steps()[0][1] if name == "wait" else None)
                self.assert_like(live, model)
            while model.operations:
                self.assertIs(live.undo(), True)
                model.operations = model.operations[:-1]
                self.assert_like(live, model)
            self.assertIs(live.undo(), False)
            self.assert_like(live, model)

    def test_at_first(self):
        for start in (-LIMIT, 0, LIMIT):
            for on in (False, True):
                live = LiveRoom(Weather(-1), Heater(3, -LIMIT, LIMIT), start, on=on)
                self.assertEqual(all_of(live)[:5], (0, start, on, 0, []))
                self.assertIs(live.undo(), False)
        self.assertIs(LiveRoom(Weather(-1), Heater(3, 18, 21), 20).is_heated, False)

    def test_starts_beyond_the_limits(self):
        for start in (LIMIT + 1, -LIMIT - 1, 10 ** 5000):
            for call in (LiveRoom, LiveRoom.replay):
                with self.assertRaises(InvalidNumber) as caught:
                    call(Weather(-1), Heater(3, 18, 21), start)
                self.assertIs(type(caught.exception), InvalidNumber)

    def test_kinds_of_values(self):
        live = LiveRoom(Weather(-1), Heater(3, 18, 21), 20)
        for count in (0, 4, 0, 3):
            self.assertIs(type(live.wait(count)), int)
            kinds = [type(value) for value in all_of(live)]
            self.assertEqual(kinds, [int, int, bool, int, list, int])
        self.assertIsNone(live.set_heater(Heater(3, 18, 21)))
        self.assertIsNone(live.add_weather(Weather(0)))

    def test_the_history_may_be_modified(self):
        live = LiveRoom(Weather(-1), Heater(3, 18, 21), 20)
        live.wait(4)
        live.history.clear()
        live.history.append(("wait", 9))
        self.assertEqual(live.history, [("wait", 4)])

    def test_the_history_tells_the_arguments(self):
        live, heater, weather = LiveRoom(Weather(-1), Heater(3, 18, 21), 20), Heater(4, 1, 2), Weather(1, 2)
        live.set_heater(heater)
        live.wait(0)
        live.add_weather(weather)
        self.assertEqual(live.history, [("set_heater", heater), ("wait", 0), ("add_weather", weather)])
        self.assertEqual(live.history[2][1].changes, (1, 2))

    def test_a_new_heater_stays_as_it_was_at_first(self):
        for on in (False, True):
            live = LiveRoom(Weather(0), Heater(5, -100, 100), 0, on=on)
            live.set_heater(Heater(7, -1, 1))
            self.assertEqual((live.is_heated, live.next_switching(), live.heated_ticks), (on, 1 if on else None, 0))
            self.assertEqual(live.wait(1), 7 if on else 0)
        live = LiveRoom(Weather(0), Heater(5, -100, 100), 0, on=False)
        live.set_heater(Heater(7, 1, 1))
        self.assertEqual((live.is_heated, live.next_switching()), (False, 0))
        self.assertEqual((live.wait(1), live.is_heated, live.heated_ticks), (7, True, 1))

    def test_the_ticks_of_an_added_weather_are_those_of_the_room(self):
        live = LiveRoom(Weather(0), Heater(1, -1000, 1000), 0)
        live.wait(4)
        live.add_weather(Weather(1, 10, 100))
        self.assertEqual([live.wait(1) for _ in range(4)], [10, 110, 111, 121])
        live.add_weather(Weather(-2, 0))
        self.assertEqual([live.wait(1) for _ in range(4)], [121 + 100 - 2, 220, 228, 328])

    def test_weathers_that_cannot_be_added(self):
        live = LiveRoom(Weather(60, 0), Heater(3, 18, 21), 20)
        live.wait(3)
        live.add_weather(Weather(0, 1))
        for index, changes in ((0, (41,)), (1, (0, 100, 41, 100)), (2, (0, 0, 41, 100)), (4, (0, 0, 0, 1, 100))):
            error = self.assert_fails(InvalidWeather, live, live.add_weather, Weather(*changes))
            self.assertEqual(error.index, index)
        for changes in ((0,) * 23, (0,) * 17, (0, 40) + (0,) * 11):
            self.assertEqual(self.assert_fails(InvalidWeather, live, live.add_weather, Weather(*changes)).index, 24)
        live.add_weather(Weather(*(0,) * 16))
        self.assertEqual(self.assert_fails(InvalidWeather, live, live.add_weather, Weather(*(0,) * 24)).index, 24)

    def test_many_small_waits_are_a_great_one(self):
        chance = random.Random(18)
        for case in random_cases(18, 60):
            heater = Heater(case.gain, case.low, case.high)
            live = LiveRoom(case.weather(), heater, case.start, on=case.on)
            whole = LiveRoom(case.weather(), heater, case.start, on=case.on)
            counts = [chance.choice((0, 1, 7, 10 ** 5)) for _ in range(30)]
            for count in counts:
                live.wait(count)
            self.assertEqual(whole.wait(sum(counts)), live.warmth)
            self.assertEqual(all_of(live)[:4], all_of(whole)[:4])
            self.assertEqual(live.next_switching(), whole.next_switching())


class FarLiveTest(LiveTestCase):

    def assert_steps(self, live, changes, heater, many):
        """Each next tick is as the document says of the one before."""
        for _ in range(many):
            now, warmth, before, heated = all_of(live)[:4]
            on = True if warmth < heater.low else (False if warmth > heater.high else before)
            switching = live.next_switching()
            self.assertEqual(switching == now, on != before)
            self.assertTrue(switching is None or switching >= now)
            expected = warmth + changes[now % len(changes)] + (heater.gain if on else 0)
            self.assertEqual(live.wait(1), expected)
            self.assertEqual(all_of(live)[:4], (now + 1, expected, on, heated + on))

    def test_operations_far_away(self):
        chance = random.Random(19)
        day = (-3, -2, -5, 0, 1, 4, -1, -7, 2, 2, 0, -9)
        for far in (10 ** 12 + 7, MOST_WAITED):
            heater, other = Heater(40, 18, 20), Heater(30, -50, 60)
            live = LiveRoom(Weather(*day), heater, 19, on=chance.random() < 0.5)
            live.wait(far)
            room = Room(Weather(*day), heater, 19)
            self.assertEqual((live.now, live.warmth), (far, room.temperature(far)))
            self.assert_steps(live, day, heater, 60)
            live.set_heater(other)
            self.assert_steps(live, day, other, 60)
            live.wait(far)
            live.add_weather(Weather(1, -2, 3, 0))
            added = [change + (1, -2, 3, 0)[tick % 4] for tick, change in enumerate(day)]
            self.assert_steps(live, added, other, 60)
            self.assertEqual(live.now, 2 * far + 180)
            while live.now > far:
                live.undo()
            self.assertEqual(live.heated_ticks, room.heating_ticks(far))

    def test_like_a_room(self):
        for case in random_cases(20, 40) + wide_cases():
            heater = Heater(case.gain, case.low, case.high)
            room = case.room()
            live = LiveRoom(case.weather(), heater, case.start, on=case.on)
            for count in (0, 1, 5, 1000, 10 ** 9, 10 ** 12, MOST_WAITED, MOST_WAITED):
                then = live.now + count
                degrees = room.temperature(then)
                if abs(degrees) > LIMIT:
                    self.assert_fails(InvalidNumber, live, live.wait, count)
                    continue
                self.assertEqual(live.wait(count), degrees, case)
                self.assertEqual(live.heated_ticks, room.heating_ticks(then), case)
                self.assertEqual(live.is_heated, room.is_on(then - 1) if then else case.on, case)
                self.assertEqual(live.next_switching(), room.nth_switching(room.switchings(then) + 1), case)

    def test_counts_beyond_their_limits(self):
        live = LiveRoom(Weather(0), Heater(3, 18, 21), 20)
        for count in (-1, MOST_WAITED + 1, FAR, -10 ** 5000):
            self.assert_fails(InvalidNumber, live, live.wait, count)
        self.assertEqual(live.wait(MOST_WAITED), 20)
        self.assert_fails(InvalidNumber, live, live.wait, -1)

    def test_the_last_tick(self):
        # The heater switches in every single tick.
        live = LiveRoom(Weather(-2), Heater(4, 0, 0), -1)
        for number in range(1000):
            self.assertEqual((live.next_switching(), live.heated_ticks), (live.now, number * MOST_WAITED // 2))
            live.wait(MOST_WAITED)
        self.assertEqual((live.now, live.warmth, live.is_heated), (FAR, -1, False))
        self.assertEqual((live.next_switching(), live.heated_ticks), (FAR, FAR // 2))
        self.assert_fails(InvalidNumber, live, live.wait, 1)
        self.assertEqual(live.wait(0), -1)
        live.undo()
        live.undo()
        live.wait(MOST_WAITED - 1)
        self.assert_fails(InvalidNumber, live, live.wait, 2)
        self.assertEqual((live.now, live.wait(1), live.now), (FAR - 1, -1, FAR))
        live.set_heater(Heater(4, -1, 0))
        self.assertEqual(live.next_switching(), FAR + 1)
        live.add_weather(Weather(2))
        self.assertIsNone(live.next_switching())
        self.assertEqual((live.now, len(live.history)), (FAR, 1003))

    def test_the_last_tick_after_changes(self):
        for change in (lambda live: live.set_heater(Heater(4, 0, 9)), lambda live: live.add_weather(Weather(0))):
            live = LiveRoom(Weather(0), Heater(4, 0, 0), 0)
            live.wait(7)
            change(live)
            for _ in range(999):
                live.wait(MOST_WAITED)
            self.assert_fails(InvalidNumber, live, live.wait, MOST_WAITED - 6)
            self.assertEqual((live.wait(MOST_WAITED - 7), live.now), (0, FAR))
            change(live)
            self.assert_fails(InvalidNumber, live, live.wait, 1)
            self.assertEqual((live.wait(0), live.now), (0, FAR))

    def test_switchings_behind_the_last_tick(self):
        live = LiveRoom(Weather(0), Heater(4, 0, 0), 5)
        for _ in range(1000):
            live.wait(MOST_WAITED)
        live.add_weather(Weather(-1))
        self.assertEqual(live.next_switching(), FAR + 6)
        live.undo()
        self.assertIsNone(live.next_switching())

    def test_temperatures_at_the_limits(self):
        for sign in (1, -1):
            heater = Heater(1, -LIMIT, LIMIT)
            live = LiveRoom(Weather(100 * sign), heater, (LIMIT - 150) * sign)
            self.assert_fails(InvalidNumber, live, live.wait, 2)
            self.assertEqual(live.wait(1), (LIMIT - 50) * sign)
            self.assert_fails(InvalidNumber, live, live.wait, 1)
            live.add_weather(Weather(-50 * sign))
            self.assertEqual(live.wait(1), LIMIT * sign)
            self.assert_fails(InvalidNumber, live, live.wait, 1)
            self.assertEqual(live.wait(0), LIMIT * sign)

    def test_only_the_last_temperature_is_limited(self):
        live = LiveRoom(Weather(100, -100), Heater(1, 0, LIMIT), LIMIT)
        self.assert_fails(InvalidNumber, live, live.wait, 1)
        self.assertEqual(live.wait(2), LIMIT)
        self.assertEqual(live.wait(MOST_WAITED), LIMIT)
        self.assert_fails(InvalidNumber, live, live.wait, MOST_WAITED - 1)


class ReplayTest(LiveTestCase):

    def setUp(self):
        self.made = Weather(-1), Heater(3, 18, 21), 20

    def test_histories(self):
        chance = random.Random(21)
        for _ in range(60):
            made = random_weather(chance, 9), random_heater(chance), chance.randint(-40, 40)
            live = LiveRoom(*made)
            for _ in range(8):
                number = chance.randrange(4)
                if number == 0:
                    live.set_heater(random_heater(chance))
                elif number == 1:
                    live.add_weather(random_weather(chance, 5))
                else:
                    live.wait(chance.randint(0, 20))
            again = LiveRoom.replay(*made, *live.history)
            self.assertIs(type(again), LiveRoom)
            self.assertEqual(all_of(again), all_of(live))
            while live.undo():
                self.assertIs(again.undo(), True)
                self.assertEqual(all_of(again), all_of(live))
            self.assertIs(again.undo(), False)

    def test_undo(self):
        heater = Heater(9, 0, 5)
        for operations, history in (
            ([], []), ([("undo",)], []), ([("undo",), ("undo",), ("wait", 3)], [("wait", 3)]),
            ([("wait", 3), ("undo",)], []), ([("wait", 3), ("wait", 4), ("undo",)], [("wait", 3)]),
            ([("wait", 3), ("set_heater", heater), ("undo",), ("undo",), ("wait", 1)], [("wait", 1)]),
            ([("wait", 3), ("set_heater", heater), ("undo",), ("wait", 1)], [("wait", 3), ("wait", 1)]),
            ([("add_weather", Weather(1)), ("undo",), ("wait", 2)], [("wait", 2)]),
        ):
            live = LiveRoom.replay(*self.made, *operations)
            self.assertEqual(live.history, history)
            self.assertEqual(all_of(live), all_of(LiveRoom.replay(*self.made, *history)))

    def test_off_at_first(self):
        self.assertIs(LiveRoom.replay(Weather(0), Heater(3, 18, 21), 20).is_heated, False)

    def assert_replay_fails(self, error, *operations):
        with self.assertRaises(error) as caught:
            LiveRoom.replay(*self.made, *operations)
        self.assertIs(type(caught.exception), error)
        return caught.exception

    def test_tuples_of_none_of_the_forms(self):
        heater, weather = Heater(9, 0, 5), Weather(1)
        for wrong in (
            ("go", 4), ("wait",), ("wait", 4, 4), ("set_heater",), ("add_weather",), ("undo", 1), ("undo", None),
            ("set_heater", heater, heater), ("add_weather", weather, 1), (), ("",), ("now",), ("redo",),
            ("Wait", 4), ("wait", heater), ("wait", weather), ("wait", "4"), ("wait", None), ("set_heater", weather),
            ("set_heater", 4), ("add_weather", heater), ("add_weather", 4), ("add_weather", (1, 2)), (4, "wait"),
            (4,), (None,), (weather,), (heater, 1), ("history", 1), ("replay", 1), ("next_switching",),
            ("wait", True),
        ):
            self.assertEqual(self.assert_replay_fails(InvalidOperation, wrong).index, 0, wrong)
            before = [("wait", 4), ("undo",), ("set_heater", heater), ("add_weather", weather)]
            error = self.assert_replay_fails(InvalidOperation, *before, wrong, ("wait", -1))
            self.assertEqual(error.index, 4, wrong)
            self.assertEqual(self.assert_replay_fails(InvalidOperation, ("wait", 1), wrong, wrong).index, 1)

    def test_errors_come_in_order(self):
        wrong, great = ("go", 4), ("add_weather", Weather(*(0,) * 23))
        self.assert_replay_fails(InvalidNumber, ("wait", -1), wrong)
        self.assert_replay_fails(InvalidNumber, ("wait", 5), ("wait", MOST_WAITED + 1), wrong)
        wide = ("add_weather", Weather(*(0,) * 24))
        self.assertEqual(self.assert_replay_fails(InvalidWeather, wide, great, wrong).index, 24)
        self.assertEqual(self.assert_replay_fails(InvalidOperation, wide, wrong, great).index, 1)
        self.assertEqual(self.assert_replay_fails(InvalidWeather, ("add_weather", Weather(-100)), wrong).index, 0)
        with self.assertRaises(InvalidNumber):
            LiveRoom.replay(Weather(-1), Heater(3, 18, 21), LIMIT + 1, wrong)


class Stop(Exception):
    """An error of the block of an attempt."""


class AttemptTest(LiveTestCase):

    def live(self):
        live = LiveRoom(Weather(-1), Heater(3, 18, 21), 20)
        live.wait(4)
        live.set_heater(Heater(5, 10, 30))
        live.wait(9)
        return live

    def assert_like_new(self, live):
        """The live room is as `live` made it, also what can be reverted."""
        fresh = LiveRoom.replay(Weather(-1), Heater(3, 18, 21), 20, *live.history)
        self.assertEqual([name for name, _ in live.history], ["wait", "set_heater", "wait"])
        while True:
            self.assertEqual(all_of(live), all_of(fresh))
            undone = live.undo()
            self.assertIs(fresh.undo(), undone)
            if not undone:
                return

    def test_operations(self):
        live = self.live()
        before = all_of(live)
        with Attempt(live):
            live.wait(7)
            live.add_weather(Weather(5, -1))
            live.set_heater(Heater(1, 0, 0))
            self.assertEqual(len(live.history), 6)
        self.assertEqual(all_of(live), before)
        self.assert_like_new(live)

    def test_undos(self):
        for many in range(1, 6):
            live = self.live()
            before = all_of(live)
            with Attempt(live):
                for number in range(many):
                    self.assertIs(live.undo(), number < 3)
                live.wait(2)
            self.assertEqual(all_of(live), before)
            self.assert_like_new(live)

    def test_errors_pass_through(self):
        for error, call in ((Stop, None), (InvalidNumber, "wait"), (KeyError, None)):
            live = self.live()
            before = all_of(live)
            with self.assertRaises(error):
                with Attempt(live):
                    live.wait(3)
                    live.undo()
                    live.undo()
                    if call:
                        live.wait(-1)
                    raise error
            self.assertEqual(all_of(live), before)
            self.assert_like_new(live)

    def test_an_empty_block(self):
        live = self.live()
        before = all_of(live)
        with Attempt(live):
            pass
        self.assertEqual(all_of(live), before)

    def test_a_block_that_is_left(self):
        live = self.live()
        before = all_of(live)
        for _ in range(3):
            with Attempt(live):
                live.wait(1)
                continue
        self.assertEqual(all_of(live), before)

    def test_the_beginning_is_that_of_the_block(self):
        live = self.live()
        attempt = Attempt(live)
        live.wait(6)
        before = all_of(live)
        for _ in range(2):
            with attempt:
                live.wait(5)
            self.assertEqual(all_of(live), before)
        live.wait(1)
        before = all_of(live)
        with attempt:
            live.undo()
        self.assertEqual(all_of(live), before)

    def test_blocks_within_blocks(self):
        live = self.live()
        one = Attempt(live)
        for inner in (Attempt(live), one):
            before = all_of(live)
            with one:
                live.wait(1)
                within = all_of(live)
                with inner:
                    live.wait(2)
                    live.undo()
                    live.undo()
                    live.undo()
                self.assertEqual(all_of(live), within)
                live.set_heater(Heater(1, 1, 1))
            self.assertEqual(all_of(live), before)
        self.assert_like_new(live)

    def test_afterwards_all_goes_on(self):
        live, other = self.live(), self.live()
        with Attempt(live):
            live.wait(1000)
        self.assertEqual([live.wait(count) for count in (1, 5, 30)], [other.wait(count) for count in (1, 5, 30)])
        self.assertEqual(live.heated_ticks, other.heated_ticks)


if __name__ == "__main__":
    unittest.main()
