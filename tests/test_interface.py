"""The names of the interface: where they are defined, and the document's examples."""

import inspect
import unittest

from warmswitch import errors, live, observers, prices, reports, rooms, settings, weathers
from warmswitch.errors import (Contradiction, InvalidHeater, InvalidOperation, InvalidReport, InvalidSetting,
                               InvalidWeather)
from warmswitch.live import Attempt, LiveRoom
from warmswitch.observers import ThresholdObserver
from warmswitch.prices import Prices, cost_share, first_over, heating_cost
from warmswitch.reports import parse_report, report
from warmswitch.rooms import Heater, Room, first_parting, least_low
from warmswitch.settings import HourSetting, RestSetting, Setting, totals, watch
from warmswitch.weathers import Weather

METHODS = {
    Weather: ("constant", "later", "__len__", "__getitem__", "__call__", "__add__", "__sub__",
              "__neg__", "__mul__", "__eq__", "__iter__"),
    Heater: ("moved",),
    Room: ("temperature", "is_on", "heating_ticks", "switchings", "nth_switching", "temperatures"),
    ThresholdObserver: ("see_switching", "see_rest"),
    Setting: ("thresholds",),
    HourSetting: ("thresholds",),
    RestSetting: ("thresholds",),
    Prices: ("__len__", "__getitem__", "__call__", "__mul__", "__eq__", "__iter__"),
    LiveRoom: ("wait", "set_heater", "add_weather", "undo", "next_switching", "replay"),
    Attempt: ("__enter__", "__exit__"),
}
VALUES = {
    Weather: {"MAX_TICKS": 24, "MAX_CHANGE": 100},
    Setting: {"KIND": "plain"},
    HourSetting: {"KIND": "hours", "MAX_LENGTH": 24},
    RestSetting: {"KIND": "rest"},
    Prices: {"MAX_TICKS": 24, "MAX_PRICE": 10 ** 6},
}
PROPERTIES = {
    Weather: ("changes",),
    Heater: ("gain", "low", "high"),
    Room: ("weather", "heater", "start", "repetition", "heating_share", "lowest", "highest"),
    ThresholdObserver: ("low_range", "high_range", "seen_ticks", "records"),
    Prices: ("cents",),
    LiveRoom: ("now", "warmth", "is_heated", "heated_ticks", "history"),
}


class PlacesTest(unittest.TestCase):

    def test_methods_stand_in_their_own_class(self):
        for owner, names in METHODS.items():
            for name in names:
                self.assertIn(name, vars(owner))

    def test_properties_stand_in_their_own_class(self):
        for owner, names in PROPERTIES.items():
            for name in names:
                self.assertIsInstance(vars(owner)[name], property)

    def test_class_values_stand_in_their_own_class(self):
        for owner, values in VALUES.items():
            for name, value in values.items():
                self.assertEqual(vars(owner)[name], value)

    def test_all_are_defined_in_their_file(self):
        for module, names in (
            (errors, ("WarmthError", "InvalidWeather", "InvalidHeater", "InvalidNumber", "OtherWeather",
                      "Contradiction", "InvalidSetting", "InvalidPrices", "InvalidOperation", "InvalidReport")),
            (weathers, ("Weather",)),
            (rooms, ("Heater", "Room", "least_low", "first_parting")),
            (observers, ("ThresholdObserver",)),
            (settings, ("Setting", "HourSetting", "RestSetting", "watch", "totals")),
            (prices, ("Prices", "heating_cost", "first_over", "cost_share")),
            (live, ("LiveRoom", "Attempt")),
            (reports, ("report", "parse_report")),
        ):
            for name in names:
                self.assertEqual(getattr(module, name).__module__, module.__name__)

    def test_on_is_passed_by_keyword_only(self):
        for owner in (Room, ThresholdObserver, LiveRoom):
            on = inspect.signature(owner).parameters["on"]
            self.assertEqual((on.kind, on.default), (on.KEYWORD_ONLY, False))

    def test_the_rest_is_passed_by_keyword_only(self):
        rest = inspect.signature(RestSetting).parameters["rest"]
        self.assertEqual((rest.kind, rest.default), (rest.KEYWORD_ONLY, rest.empty))

    def test_names_of_the_parameters(self):
        for part, names in (
            (Weather.constant, ["change"]),
            (Weather.later, ["self", "ticks"]),
            (Heater, ["gain", "low", "high"]),
            (Heater.moved, ["self", "degrees"]),
            (Room, ["weather", "heater", "start", "on"]),
            (Room.temperature, ["self", "tick"]),
            (Room.is_on, ["self", "tick"]),
            (Room.heating_ticks, ["self", "count"]),
            (Room.switchings, ["self", "count"]),
            (Room.nth_switching, ["self", "number"]),
            (Room.temperatures, ["self", "first", "last"]),
            (least_low, ["weather", "gain", "band", "temperature"]),
            (first_parting, ["one", "other"]),
            (ThresholdObserver, ["weather", "gain", "start", "on"]),
            (ThresholdObserver.see_switching, ["self", "tick"]),
            (ThresholdObserver.see_rest, ["self", "tick"]),
            (Setting, ["low", "high"]),
            (HourSetting, ["length", "parts"]),
            (RestSetting, ["low", "high", "rest"]),
            (Setting.thresholds, ["self", "tick"]),
            (HourSetting.thresholds, ["self", "tick"]),
            (RestSetting.thresholds, ["self", "tick"]),
            (watch, ["weather", "gain", "setting", "start", "count"]),
            (totals, ["weather", "gain", "setting", "start", "count"]),
            (Prices, ["cents"]),
            (heating_cost, ["room", "prices", "count"]),
            (first_over, ["room", "prices", "budget"]),
            (cost_share, ["room", "prices"]),
            (LiveRoom, ["weather", "heater", "start", "on"]),
            (LiveRoom.replay, ["weather", "heater", "start", "operations"]),
            (LiveRoom.wait, ["self", "count"]),
            (LiveRoom.set_heater, ["self", "heater"]),
            (LiveRoom.add_weather, ["self", "weather"]),
            (LiveRoom.undo, ["self"]),
            (LiveRoom.next_switching, ["self"]),
            (Attempt, ["live"]),
            (report, ["room", "first", "last"]),
            (parse_report, ["text"]),
        ):
            self.assertEqual(list(inspect.signature(part).parameters), names)


class ExamplesTest(unittest.TestCase):

    def setUp(self):
        self.weather = Weather(-2, -1, 0)
        self.heater = Heater(4, 18, 20)
        self.room = Room(self.weather, self.heater, 20)

    def test_weather(self):
        weather = self.weather
        self.assertEqual([weather.changes, len(weather), weather[4], weather(10 ** 18)],
                         [(-2, -1, 0), 3, -1, -1000000000000000001])
        with self.assertRaises(InvalidWeather) as caught:
            Weather(5, 101)
        self.assertEqual(caught.exception.index, 1)
        signs = [weather + Weather(1, 2), -weather, weather * 3, weather - weather]
        self.assertEqual([each.changes for each in signs],
                         [(-1, 1, 1, 0, 0, 2), (2, 1, 0), (-6, -3, 0), (0, 0, 0)])
        self.assertEqual([Weather(1, 2) == Weather(1, 2, 1, 2), weather == Weather(0)], [True, False])
        self.assertEqual(Weather.constant(7).changes, (7,))
        self.assertEqual(weather.later(1).changes, (-1, 0, -2))

    def test_heater(self):
        with self.assertRaises(InvalidHeater):
            Heater(4, 20, 18)
        heater = self.heater.moved(3)
        self.assertEqual([heater.gain, heater.low, heater.high], [4, 21, 23])

    def test_room(self):
        room = self.room
        self.assertEqual([room.repetition, room.heating_share, room.lowest, room.highest],
                         [(0, 12), (1, 4), (16, 7), (23, 9)])
        self.assertEqual([room.temperature(tick) for tick in (0, 7, 9, 10 ** 18)], [20, 16, 23, 19])
        self.assertEqual([room.is_on(6), room.is_on(7), room.is_on(10 ** 18)], [False, True, False])
        self.assertEqual([room.heating_ticks(12), room.heating_ticks(10 ** 18), room.switchings(12)],
                         [3, 250000000000000000, 4])
        self.assertEqual([room.nth_switching(3), room.nth_switching(5)], [7, 14])
        self.assertEqual(list(room.temperatures(0, 5)), [20, 18, 17, 21, 19, 18])

    def test_thresholds(self):
        self.assertEqual([least_low(self.weather, 4, 2, 15), least_low(Weather(-5), 4, 2, 15)], [17, None])
        other = Room(self.weather, Heater(4, 18, 21), 20)
        self.assertEqual([first_parting(self.room, other), first_parting(self.room, self.room)], [4, None])

    def test_observer(self):
        observer = ThresholdObserver(self.weather, 4, 20)
        self.assertEqual([observer.low_range, observer.seen_ticks, observer.records],
                         [(-1000000000000, 1000000000000), 0, []])
        self.assertEqual([observer.see_switching(2), observer.low_range, observer.seen_ticks],
                         [(1, 2000000000001), (18, 18), 3])
        with self.assertRaises(Contradiction):
            ThresholdObserver(self.weather, 4, 20).see_rest(10 ** 18)

    def test_settings(self):
        setting = HourSetting(24, (0, 16, 18), (7, 19, 21))
        self.assertEqual([setting.thresholds(6), setting.thresholds(31)], [(16, 18), (19, 21)])
        with self.assertRaises(InvalidSetting) as caught:
            HourSetting(24, (0, 16, 18), (0, 19, 21))
        self.assertEqual(caught.exception.index, 1)
        self.assertEqual(list(watch(Weather(-1), 3, Setting(18, 21), 20, 5)),
                         [(20, False), (19, False), (18, False), (17, True), (19, True)])
        self.assertEqual([totals(Weather(-1), 3, Setting(18, 21), 20, 12),
                          totals(Weather(-1), 3, RestSetting(18, 21, rest=4), 20, 10)], [(3, 2, 17), (5, 2, 17)])

    def test_prices(self):
        cheap = Prices(2, 5)
        self.assertEqual([len(cheap), cheap[3], cheap(5), (cheap * 3).cents, cheap == Prices(2, 5, 2, 5)],
                         [2, 5, 16, (6, 15), True])
        room = Room(Weather(-1), Heater(3, 18, 21), 20)
        self.assertEqual([heating_cost(room, Prices(2, 5), 6), heating_cost(room, Prices(10), 10 ** 18),
                          first_over(room, Prices(10), 30), cost_share(room, Prices(2, 5))],
                         [12, 3333333333333333330, 13, (7, 6)])

    def test_live_rooms(self):
        made = Weather(-1), Heater(3, 18, 21), 20
        used = LiveRoom(*made)
        self.assertEqual([used.wait(4), used.now, used.warmth, used.is_heated, used.heated_ticks,
                          used.next_switching(), used.history], [19, 4, 19, True, 1, 6, [("wait", 4)]])
        self.assertEqual(LiveRoom.replay(*made, ("wait", 4), ("undo",)).now, 0)
        with self.assertRaises(InvalidOperation) as caught:
            LiveRoom.replay(*made, ("wait", 4), ("go", 4))
        self.assertEqual(caught.exception.index, 1)

    def test_reports(self):
        room = Room(Weather(-1), Heater(3, 18, 21), 20)
        self.assertEqual(parse_report(report(room, 3, 4)), [(3, 17, True), (4, 19, True)])
        self.assertEqual(report(room, 1003, 1003).split("\n")[0], "                tick         degrees heater")
        with self.assertRaises(InvalidReport) as caught:
            parse_report("tick")
        self.assertEqual(caught.exception.row, 0)


if __name__ == "__main__":
    unittest.main()
