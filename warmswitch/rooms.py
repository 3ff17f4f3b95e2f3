"""Heaters and rooms, and what their thresholds do."""

from warmswitch.courses import Course
from warmswitch.errors import InvalidHeater, InvalidNumber, OtherWeather, check_number
from warmswitch.weathers import MOST_TICKS

MOST_GAIN = 200
MOST_DEGREES = 10 ** 12
MOST_BAND = 10 ** 6
MOST_TEMPERATURES = 10000


def check_gain(gain):
    """Raise InvalidHeater unless a heater can have this gain."""
    if not 1 <= gain <= MOST_GAIN:
        raise InvalidHeater("the gain is out of range")


def check_ticks(first, last, most):
    """Raise InvalidNumber unless there are ticks from the first to the last one, and not too many."""
    check_number(first, 0, MOST_TICKS)
    check_number(last, 0, MOST_TICKS)
    if not 1 <= last - first + 1 <= most:
        raise InvalidNumber("there are no ticks or too many")


def can_be_thresholds(low, high):
    """Return whether two thresholds are in range and in order."""
    return -MOST_DEGREES <= low <= high <= MOST_DEGREES


class Heater:
    """A heater with its two thresholds."""

    def __init__(self, gain, low, high):
        check_gain(gain)
        if not can_be_thresholds(low, high):
            raise InvalidHeater("the thresholds are out of range or out of order")
        self._gain = gain
        self._low = low
        self._high = high

    @property
    def gain(self):
        """What the heater adds in a tick in which it is on."""
        return self._gain

    @property
    def low(self):
        """The heater goes on below this temperature."""
        return self._low

    @property
    def high(self):
        """The heater goes off above this temperature."""
        return self._high

    def moved(self, degrees):
        """Return the heater with both thresholds so much higher."""
        return Heater(self._gain, self._low + degrees, self._high + degrees)


class Room:
    """A room with its weather, its heater and its temperature at the beginning."""

    def __init__(self, weather, heater, start, *, on=False):
        check_number(start, -MOST_DEGREES, MOST_DEGREES)
        self._weather = weather
        self._heater = heater
        self._start = start
        self.course = Course(weather.changes, heater.gain, heater.low, heater.high, start, on)
        # The first stretch begins with no switching if the heater only stays as it was before.
        self._unswitched = 1 if self.course.on_in(0) == on else 0

    @property
    def weather(self):
        """The weather of the room."""
        return self._weather

    @property
    def heater(self):
        """The heater of the room."""
        return self._heater

    @property
    def start(self):
        """The temperature at the beginning of tick 0."""
        return self._start

    @property
    def repetition(self):
        """The first tick of the repetition, and after how many ticks all is the same; or None."""
        return self.course.recurrence()

    @property
    def heating_share(self):
        """The share of ticks with heating in the long run, as a fraction in lowest terms."""
        return self.course.share_of_heating()

    @property
    def lowest(self):
        """The lowest temperature and its first tick, or None."""
        return self.course.extreme(-1)

    @property
    def highest(self):
        """The highest temperature and its first tick, or None."""
        return self.course.extreme(1)

    def temperature(self, tick):
        """Return the temperature at the beginning of a tick."""
        check_number(tick, 0, MOST_TICKS)
        return self.course.degrees_in(tick)

    def is_on(self, tick):
        """Return whether the heater is on in a tick."""
        check_number(tick, 0, MOST_TICKS)
        return self.course.on_in(tick)

    def heating_ticks(self, count):
        """Return in how many of the first so many ticks the heater is on."""
        check_number(count, 0, MOST_TICKS)
        return self.course.heated_before(count)

    def switchings(self, count):
        """Return in how many of the first so many ticks the heater goes on or off."""
        check_number(count, 0, MOST_TICKS)
        if count == 0:
            return 0
        return self.course.begun_until(count - 1) - self._unswitched

    def nth_switching(self, number):
        """Return the tick of the switching with a number from 1, or None."""
        check_number(number, 1, MOST_TICKS)
        return self.course.begin_of(number - 1 + self._unswitched)

    def switching_from(self, tick):
        """Return the first tick, from a tick on, in which the heater goes on or off, or None."""
        number = self._unswitched if tick == 0 else self.course.begun_until(tick - 1)
        return self.course.begin_of(number)

    def temperatures(self, first, last):
        """Yield the temperatures at the beginning of all ticks from the first to the last one."""
        check_ticks(first, last, MOST_TEMPERATURES)
        for tick in range(first, last + 1):
            yield self.course.degrees_in(tick)


def least_low(weather, gain, band, temperature):
    """Return the smallest low threshold with which a room never is colder, or None."""
    check_gain(gain)
    check_number(band, 0, MOST_BAND)
    # A room that starts at its low threshold takes the same course at each one, only higher.
    lowest = Course(weather.changes, gain, 0, band, 0, False).extreme(-1)
    return None if lowest is None else temperature - lowest[0]


def first_parting(one, other):
    """Return the first tick at the beginning of which the temperatures differ, or None."""
    if one.weather != other.weather:
        raise OtherWeather("the rooms do not have equal weather")
    if one.start != other.start:
        return 0
    tick = first_unlike_heating(one, other)
    return None if tick is None else tick + 1


def first_unlike_heating(one, other):
    """Return the first tick in which two rooms that are equal so far are heated unlike, or None."""
    if one.heater.gain != other.heater.gain:
        return earlier(first_heating(one.course), first_heating(other.course))
    if one.course.on_in(0) != other.course.on_in(0):
        return 0
    # Where one room has come to its repetition and the other one is still equal to it, the other
    # one has come to it too: its state is the same as it was then.
    for number in range(1, one.course.kept_stretches() + 1):
        begin, other_begin = one.course.begin_of(number), other.course.begin_of(number)
        if begin != other_begin:
            return earlier(begin, other_begin)
    return None


def first_heating(course):
    """Return the first tick in which the heater is on, or None if it never is."""
    return 0 if course.on_in(0) else course.begin_of(1)


def earlier(one, other):
    """Return the earlier one of two ticks, each of which may be None."""
    return min([tick for tick in (one, other) if tick is not None], default=None)
