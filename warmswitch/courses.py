"""The course of a temperature, cut into stretches in which the heater stays as it is.

Nothing here is limited: ticks, temperatures and thresholds are of any size. Where a bound or an
extreme is to be found above, the sign is 1; where it is to be found below, the sign is -1.
"""

from warmswitch.timelines import HeatingSum, Timeline


class Drift:
    """The changes of a temperature while the heater stays on, or stays off."""

    def __init__(self, changes, gain):
        self.round_ticks = len(changes)
        self.round_sum = sum(changes) + gain * len(changes)
        self._sums = [sum(changes[:ticks]) + gain * ticks for ticks in range(len(changes))]

    def sum_to(self, tick):
        """Return the sum of the changes before a tick."""
        rounds, rest = divmod(tick, self.round_ticks)
        return rounds * self.round_sum + self._sums[rest]


def both_drifts(changes, gain):
    """Return the drift with the heater off, and the one with the heater on."""
    return Drift(changes, 0), Drift(changes, gain)


class Stretch:
    """Ticks from a first one on in which the heater stays on, or stays off."""

    def __init__(self, drifts, on, begin, degrees):
        self.on = on
        self.begin = begin
        self._drifts = drifts
        self._drift = drifts[1] if on else drifts[0]
        self._base = degrees - self._drift.sum_to(begin)

    def degrees_at(self, tick):
        """Return the temperature at the beginning of a tick."""
        return self._base + self._drift.sum_to(tick)

    def begin_state(self):
        """Return what all that follows depends on, except for the thresholds."""
        return self.begin % self._drift.round_ticks, self.degrees_at(self.begin), self.on

    def continued(self, tick):
        """Return the stretch from a later tick on."""
        return Stretch(self._drifts, self.on, tick, self.degrees_at(tick))

    def switched(self, tick):
        """Return the stretch that follows if the heater switches in a tick."""
        return Stretch(self._drifts, not self.on, tick, self.degrees_at(tick))

    def level_ticks(self):
        """Return after how many ticks the temperature is the same again, or None if never."""
        return self._drift.round_ticks if self._drift.round_sum == 0 else None

    def first_beyond(self, bound, sign):
        """Return the first tick behind the begin with a temperature beyond a bound, or None."""
        ticks = self._drift.round_ticks
        speed = sign * self._drift.round_sum
        found = []
        for tick in range(self.begin + 1, self.begin + ticks + 1):
            gap = sign * (bound - self.degrees_at(tick))
            if gap < 0:
                return tick
            if speed > 0:
                found.append(tick + (gap // speed + 1) * ticks)
        return min(found, default=None)

    def extreme_before(self, end, sign):
        """Return the most extreme temperature before an end, and its first tick.

        If the end is None, the stretch goes on for ever. None is returned without such a
        temperature.
        """
        ticks = self._drift.round_ticks
        # Each round is like the one before it, only moved: an extreme is in the first or the last.
        if sign * self._drift.round_sum <= 0:
            first, last = self.begin, self.begin + ticks
            if end is not None:
                last = min(last, end)
        elif end is None:
            return None
        else:
            first, last = max(self.begin, end - ticks), end
        best = None
        for tick in range(first, last):
            best = more_extreme(best, (self.degrees_at(tick), tick), sign)
        return best


def more_extreme(best, found, sign):
    """Return the one of two (temperature, tick) with the more extreme temperature, or the first."""
    if best is None or sign * (found[0] - best[0]) > 0:
        return found
    return best


def heater_state(degrees, low, high, before):
    """Return whether the heater is on in a tick that begins with this temperature."""
    if degrees < low:
        return True
    if degrees > high:
        return False
    return before


class Course:
    """All ticks of a room, as stretches with numbers from 0.

    If the course repeats, the last stretch that is kept begins like an earlier one.
    """

    # After tick 0, the heater goes on with a temperature at most 100 below the low threshold, in
    # one of at most 24 ticks of the weather: so a few thousand stretches tell all that ever happens.

    def __init__(self, changes, gain, low, high, start, on):
        self._low = low
        self._high = high
        self._stretches = []
        state = heater_state(start, low, high, on)
        back = self._follow(Stretch(both_drifts(changes, gain), state, 0, start))
        self._timeline = Timeline([stretch.begin for stretch in self._stretches], back)
        self._heating = self.heating_sum((1,))

    def _follow(self, stretch):
        """Keep this stretch and all that follow, until one begins like an earlier one or has no end.

        Return the number of the earlier one, or None.
        """
        known = {}
        while True:
            number = len(self._stretches)
            self._stretches.append(stretch)
            state = stretch.begin_state()
            if state in known:
                return known[state]
            known[state] = number
            end = self._end_of(stretch)
            if end is None:
                return None
            stretch = stretch.switched(end)

    def _end_of(self, stretch):
        if stretch.on:
            return stretch.first_beyond(self._high, 1)
        return stretch.first_beyond(self._low, -1)

    def degrees_in(self, tick):
        """Return the temperature at the beginning of a tick."""
        place = self._timeline.place(tick)
        return self._stretches[place[1]].degrees_at(place[2])

    def on_in(self, tick):
        """Return whether the heater is on in a tick."""
        place = self._timeline.place(tick)
        return self._stretches[place[1]].on

    def heating_sum(self, amounts):
        """Return the sums of amounts of ticks, which repeat, over the ticks with heating."""
        return HeatingSum(self._timeline, self._stretches[0].on, amounts)

    def heated_before(self, tick):
        """Return in how many ticks before a tick the heater is on."""
        return self._heating.sum_before(tick)

    def share_of_heating(self):
        """Return the share of ticks with heating in the long run, in lowest terms."""
        return self._heating.share()

    def begun_until(self, tick):
        """Return how many stretches begin in a tick or before it."""
        return self._timeline.begun_until(tick)

    def begin_of(self, number):
        """Return the tick in which the stretch with a number begins, or None if there is none."""
        return self._timeline.begin_of(number)

    def kept_stretches(self):
        """Return how many stretches tell all that ever happens."""
        return len(self._stretches)

    def recurrence(self):
        """Return the first tick from which on all is repeated, and after how many ticks; or None."""
        last = self._stretches[-1]
        back = self._timeline.back
        if back is None:
            ticks = last.level_ticks()
            return None if ticks is None else (last.begin, ticks)
        first = self._stretches[back].begin
        if back > 0:
            # What leads to the two equal beginnings is equal, too, back to the tick in which the
            # shorter one of the two stretches before them begins.
            before = first - self._stretches[back - 1].begin
            first = first - min(before, last.begin - self._stretches[-2].begin)
        return first, self._timeline.ticks_of_round()

    def extreme(self, sign):
        """Return the most extreme temperature ever, and its first tick, or None if there is none."""
        best = None
        for number in range(len(self._stretches)):
            end = self.begin_of(number + 1)
            found = self._stretches[number].extreme_before(end, sign)
            if found is None:
                return None
            best = more_extreme(best, found, sign)
        return best
