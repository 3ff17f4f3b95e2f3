"""Settings: when a heater goes on and off, and what comes of it tick by tick."""

from warmswitch.courses import heater_state
from warmswitch.errors import InvalidSetting, check_number
from warmswitch.rooms import MOST_DEGREES, MOST_GAIN, can_be_thresholds

MOST_REST = 1000
MOST_WATCHED = 10000


class Setting:
    """Two thresholds that always hold."""

    KIND = "plain"

    def __init__(self, low, high):
        if not can_be_thresholds(low, high):
            raise InvalidSetting(0)
        self._low = low
        self._high = high

    def thresholds(self, tick):
        """Return the low and the high threshold in a tick."""
        return self._low, self._high

    def lets_switch(self, tick, last):
        """Return whether the heater may switch in a tick after a last switching, or None."""
        return True


class HourSetting(Setting):
    """Thresholds that change in the course of a day."""

    KIND = "hours"
    MAX_LENGTH = 24

    def __init__(self, length, *parts):
        if not 1 <= length <= self.MAX_LENGTH:
            raise InvalidSetting(-1)
        index = first_invalid_part(length, parts)
        if index is not None:
            raise InvalidSetting(index)
        self._length = length
        self._parts = parts

    def thresholds(self, tick):
        """Return the low and the high threshold in a tick."""
        hour = tick % self._length
        begun = [(low, high) for begin, low, high in self._parts if begin <= hour]
        return begun[-1]


class RestSetting(Setting):
    """Two thresholds, and a rest of the heater after each switching."""

    KIND = "rest"

    def __init__(self, low, high, *, rest):
        super().__init__(low, high)
        if not 0 <= rest <= MOST_REST:
            raise InvalidSetting(1)
        self._rest = rest

    def thresholds(self, tick):
        """Return the low and the high threshold in a tick."""
        return super().thresholds(tick)

    def lets_switch(self, tick, last):
        """Return whether the heater may switch in a tick after a last switching, or None."""
        return last is None or tick - last > self._rest


def first_invalid_part(length, parts):
    """Return the index of the first invalid part of a day, 0 without parts, or None."""
    before = -1
    for index, (begin, low, high) in enumerate(parts):
        if index == 0 and begin != 0:
            return index
        if not before < begin < length or not can_be_thresholds(low, high):
            return index
        before = begin
    return 0 if len(parts) == 0 else None


def watch(weather, gain, setting, start, count):
    """Yield the temperature at the beginning of each tick, and whether the heater is on in it."""
    check_number(gain, 1, MOST_GAIN)
    check_number(start, -MOST_DEGREES, MOST_DEGREES)
    check_number(count, 0, MOST_WATCHED)
    degrees, on, last = start, False, None
    for tick in range(count):
        low, high = setting.thresholds(tick)
        wanted = heater_state(degrees, low, high, on)
        if wanted != on and setting.lets_switch(tick, last):
            on, last = wanted, tick
        yield degrees, on
        degrees = degrees + weather[tick] + (gain if on else 0)


def totals(weather, gain, setting, start, count):
    """Return how many ticks are heated, how often the heater switches, and the least temperature."""
    heated, switchings, least, before = 0, 0, None, False
    for degrees, on in watch(weather, gain, setting, start, count):
        if on:
            heated = heated + 1
        if on != before:
            switchings = switchings + 1
        before = on
        if least is None or degrees < least:
            least = degrees
    return heated, switchings, least
