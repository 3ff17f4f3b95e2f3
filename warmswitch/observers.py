"""Observers: what switchings tell about hidden thresholds."""

from warmswitch.courses import Stretch, both_drifts
from warmswitch.errors import Contradiction, check_number
from warmswitch.rooms import MOST_DEGREES, check_gain
from warmswitch.weathers import MOST_TICKS


class ThresholdObserver:
    """An observer that knows a room except for its thresholds."""

    def __init__(self, weather, gain, start, *, on=False):
        check_gain(gain)
        check_number(start, -MOST_DEGREES, MOST_DEGREES)
        # The ticks that have not been seen, as they are until the heater switches.
        self._unseen = Stretch(both_drifts(weather.changes, gain), on, 0, start)
        self._lows = (-MOST_DEGREES, MOST_DEGREES)
        self._highs = (-MOST_DEGREES, MOST_DEGREES)
        self._accepted = []

    @property
    def low_range(self):
        """The least and the greatest possible low threshold."""
        return self._lows

    @property
    def high_range(self):
        """The least and the greatest possible high threshold."""
        return self._highs

    @property
    def seen_ticks(self):
        """How many ticks have been seen."""
        return self._unseen.begin

    @property
    def records(self):
        """The list of all accepted observations."""
        return list(self._accepted)

    def see_switching(self, tick):
        """Record that the next switching is in a tick; return how many thresholds remain."""
        check_number(tick, self._unseen.begin, MOST_TICKS)
        lows, highs = self._ranges_after_rest(tick)
        degrees = self._unseen.degrees_at(tick)
        if self._unseen.on:
            highs = (highs[0], min(highs[1], degrees - 1))
        else:
            lows = (max(lows[0], degrees + 1), lows[1])
        check_ranges(lows, highs)
        return self._accept(lows, highs, self._unseen.switched(tick), ("switching", tick))

    def see_rest(self, tick):
        """Record that there is no switching up to a tick; return how many thresholds remain."""
        check_number(tick, self._unseen.begin, MOST_TICKS)
        lows, highs = self._ranges_after_rest(tick + 1)
        check_ranges(lows, highs)
        return self._accept(lows, highs, self._unseen, ("rest", tick))

    def _ranges_after_rest(self, end):
        """Return the ranges if there is no switching in the unseen ticks before an end."""
        lows, highs = self._lows, self._highs
        extreme = self._unseen.extreme_before(end, 1 if self._unseen.on else -1)
        if extreme is None:
            return lows, highs
        if self._unseen.on:
            return lows, (max(highs[0], extreme[0]), highs[1])
        return (lows[0], min(lows[1], extreme[0])), highs

    def _accept(self, lows, highs, stretch, observation):
        """Keep an observation of the ticks up to its own one, and return how many remain."""
        self._lows = lows
        self._highs = highs
        self._unseen = stretch.continued(observation[1] + 1)
        self._accepted.append(observation)
        return lows[1] - lows[0] + 1, highs[1] - highs[0] + 1


def check_ranges(lows, highs):
    """Raise Contradiction unless there are a low and a high threshold that is not less."""
    if lows[0] > lows[1] or highs[0] > highs[1] or lows[0] > highs[1]:
        raise Contradiction("no thresholds agree with what was seen")
