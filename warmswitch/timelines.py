"""Timelines: begins of stretches that may repeat, and sums over the ticks with heating."""

from math import gcd

from warmswitch.rounds import sum_of_first


def lowest_terms(numerator, denominator):
    """Return a fraction with a positive denominator in lowest terms."""
    common = gcd(numerator, denominator)
    return numerator // common, denominator // common


class Timeline:
    """The ticks in which stretches begin, with numbers from 0.

    If `back` is a number, all that follows the last begin is like what follows the begin with that
    number, so the begins between the two are repeated for ever. If it is None, the last stretch has
    no end.
    """

    def __init__(self, begins, back):
        self.back = back
        self.last = len(begins) - 1
        self._begins = begins

    def ticks_of_round(self):
        """Return after how many ticks all that is repeated is repeated."""
        return self._begins[self.last] - self._begins[self.back]

    def begin_of(self, number):
        """Return the tick in which the stretch with a number begins, or None if there is none."""
        if number <= self.last:
            return self._begins[number]
        if self.back is None:
            return None
        rounds, rest = divmod(number - self.back, self.last - self.back)
        return self._begins[self.back + rest] + rounds * self.ticks_of_round()

    def place(self, tick):
        """Return how often all has been repeated, the stretch's number, and the tick before that."""
        rounds = 0
        if self.back is not None and tick >= self._begins[self.last]:
            first = self._begins[self.back]
            rounds, rest = divmod(tick - first, self.ticks_of_round())
            tick = first + rest
        return rounds, self._number_at(tick), tick

    def _number_at(self, tick):
        least, greatest = 0, self.last
        while least < greatest:
            middle = (least + greatest + 1) // 2
            if self._begins[middle] <= tick:
                least = middle
            else:
                greatest = middle - 1
        return least

    def begun_until(self, tick):
        """Return how many stretches begin in a tick or before it."""
        rounds, number, _ = self.place(tick)
        if rounds > 0:
            number = number + rounds * (self.last - self.back)
        return number + 1

    def in_rounds_of(self, ticks):
        """Return the timeline in which a round also is one or more whole rounds of so many ticks."""
        if self.back is None:
            return self
        times = ticks // gcd(self.ticks_of_round(), ticks)
        last = self.back + (self.last - self.back) * times
        return Timeline([self.begin_of(number) for number in range(last + 1)], self.back)


class HeatingSum:
    """The sum of amounts of ticks, which repeat, over the ticks with heating alone."""

    def __init__(self, timeline, on, amounts):
        # The heater is on in every second stretch; `on` tells whether it is in the first one.
        self._on = on
        self._amounts = amounts
        self._timeline = timeline.in_rounds_of(len(amounts))
        self._sums = [0]
        for number in range(self._timeline.last):
            end = self._timeline.begin_of(number + 1)
            self._sums.append(self._sums[number] + self._sum_within(number, end))

    def _is_on(self, number):
        return self._on == (number % 2 == 0)

    def _sum_within(self, number, end):
        """Return the sum from the begin of a stretch with a number to an end within it."""
        if not self._is_on(number):
            return 0
        begin = self._timeline.begin_of(number)
        return sum_of_first(self._amounts, end) - sum_of_first(self._amounts, begin)

    def sum_before(self, tick):
        """Return the sum over the ticks with heating before a tick."""
        rounds, number, place = self._timeline.place(tick)
        found = self._sums[number] + self._sum_within(number, place)
        if rounds > 0:
            found = found + rounds * self._sum_of_round()
        return found

    def _sum_of_round(self):
        return self._sums[self._timeline.last] - self._sums[self._timeline.back]

    def share(self):
        """Return the sum per tick in the long run, as a fraction in lowest terms."""
        if self._timeline.back is not None:
            return lowest_terms(self._sum_of_round(), self._timeline.ticks_of_round())
        if self._is_on(self._timeline.last):
            return lowest_terms(sum(self._amounts), len(self._amounts))
        return 0, 1
