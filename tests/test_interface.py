"""The names of the interface: where they are defined, and the document's examples."""

import inspect
import unittest

from warmswitch import observers, rooms, weathers
from warmswitch.errors import Contradiction, InvalidHeater, InvalidWeather
from warmswitch.observers import ThresholdObserver
from warmswitch.rooms import Heater, Room, first_parting, least_low
from warmswitch.weathers import Weather

METHODS = {
    Weather: ("constant", "later", "__len__", "__getitem__", "__call__", "__add__", "__sub__",
              "__neg__", "__mul__", "__eq__", "__iter__"),
    Heater: ("moved",),
    Room: ("temperature", "is_on", "heating_ticks", "switchings", "nth_switching", "temperatures"),
    ThresholdObserver: ("see_switching", "see_rest"),
}
PROPERTIES = {
    Weather: ("changes",),
    Heater: ("gain", "low", "high"),
    Room: ("weather", "heater", "start", "repetition", "heating_share", "lowest", "highest"),
    ThresholdObserver: ("low_range", "high_range", "seen_ticks", "records"),
}


class PlacesTest(unittest.TestCase):

    def test_methods_stand_in_their_own_class(self):
        for owner, names in METHODS.items():
            for name in names:
                self.assertIn(name, vars(owner))

    def test_properties_stand_in_their_own_class(self):
        for owner, names in PROPERTIES.items():
            for name in names:
                self.assertIsInstance(vars(owner)[name], property)

    def test_all_are_defined_in_their_file(self):
        for module, names in (
            (weathers, ("Weather",)),
            (rooms, ("Heater", "Room", "least_low", "first_parting")),
            (observers, ("ThresholdObserver",)),
        ):
            for name in names:
                self.assertEqual(getattr(module, name).__module__, module.__name__)

    def test_on_is_passed_by_keyword_only(self):
        for owner in (Room, ThresholdObserver):
            on = inspect.signature(owner).parameters["on"]
            self.assertEqual((on.kind, on.default), (on.KEYWORD_ONLY, False))

    def test_names_of_the_parameters(self):
        for part, names in (
            (Weather.constant, ["change"]),
            (Weather.later, ["self", "ticks"]),
            (Heater, ["gain", "low", "high"]),
            (Heater.moved, ["self", "degrees"]),
            (Room, ["weather", "heater", "start", "on"]),
            (Room.temperature, ["self", "tick"]),
            (Room.is_on, ["self", "tick"]),
            (Room.heating_ticks, ["self", "count"]),
            (Room.switchings, ["self", "count"]),
            (Room.nth_switching, ["self", "number"]),
            (Room.temperatures, ["self", "first", "last"]),
            (least_low, ["weather", "gain", "band", "temperature"]),
            (first_parting, ["one", "other"]),
            (ThresholdObserver, ["weather", "gain", "start", "on"]),
            (ThresholdObserver.see_switching, ["self", "tick"]),
            (ThresholdObserver.see_rest, ["self", "tick"]),
        ):
            self.assertEqual(list(inspect.signature(part).parameters), names)


class ExamplesTest(unittest.TestCase):

    def setUp(self):
        self.weather = Weather(-2, -1, 0)
        self.heater = Heater(4, 18, 20)
        self.room = Room(self.weather, self.heater, 20)

    def test_weather(self):
        weather = self.weather
        self.assertEqual([weather.changes, len(weather), weather[4], weather(10 ** 18)],
                         [(-2, -1, 0), 3, -1, -1000000000000000001])
        with self.assertRaises(InvalidWeather) as caught:
            Weather(5, 101)
        self.assertEqual(caught.exception.index, 1)
        signs = [weather + Weather(1, 2), -weather, weather * 3, weather - weather]
        self.assertEqual([each.changes for each in signs],
                         [(-1, 1, 1, 0, 0, 2), (2, 1, 0), (-6, -3, 0), (0, 0, 0)])
        self.assertEqual([Weather(1, 2) == Weather(1, 2, 1, 2), weather == Weather(0)], [True, False])
        self.assertEqual(Weather.constant(7).changes, (7,))
        self.assertEqual(weather.later(1).changes, (-1, 0, -2))

    def test_heater(self):
        with self.assertRaises(InvalidHeater):
            Heater(4, 20, 18)
        heater = self.heater.moved(3)
        self.assertEqual([heater.gain, heater.low, heater.high], [4, 21, 23])

    def test_room(self):
        room = self.room
        self.assertEqual([room.repetition, room.heating_share, room.lowest, room.highest],
                         [(0, 12), (1, 4), (16, 7), (23, 9)])
        self.assertEqual([room.temperature(tick) for tick in (0, 7, 9, 10 ** 18)], [20, 16, 23, 19])
        self.assertEqual([room.is_on(6), room.is_on(7), room.is_on(10 ** 18)], [False, True, False])
        self.assertEqual([room.heating_ticks(12), room.heating_ticks(10 ** 18), room.switchings(12)],
                         [3, 250000000000000000, 4])
        self.assertEqual([room.nth_switching(3), room.nth_switching(5)], [7, 14])
        self.assertEqual(list(room.temperatures(0, 5)), [20, 18, 17, 21, 19, 18])

    def test_thresholds(self):
        self.assertEqual([least_low(self.weather, 4, 2, 15), least_low(Weather(-5), 4, 2, 15)], [17, None])
        other = Room(self.weather, Heater(4, 18, 21), 20)
        self.assertEqual([first_parting(self.room, other), first_parting(self.room, self.room)], [4, None])

    def test_observer(self):
        observer = ThresholdObserver(self.weather, 4, 20)
        self.assertEqual([observer.low_range, observer.seen_ticks, observer.records],
                         [(-1000000000000, 1000000000000), 0, []])
        self.assertEqual([observer.see_switching(2), observer.low_range, observer.seen_ticks],
                         [(1, 2000000000001), (18, 18), 3])
        with self.assertRaises(Contradiction):
            ThresholdObserver(self.weather, 4, 20).see_rest(10 ** 18)


if __name__ == "__main__":
    unittest.main()
