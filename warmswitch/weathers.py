"""Weather: changes of the temperature that repeat."""

from warmswitch.errors import InvalidWeather, check_number
from warmswitch.rounds import added_rounds, first_invalid, same_rounds, sum_of_first

MOST_TICKS = 10 ** 18


class Weather:
    """Changes of the temperature, one for each tick, again and again."""

    MAX_TICKS = 24
    MAX_CHANGE = 100

    def __init__(self, *changes):
        index = first_invalid(changes, -self.MAX_CHANGE, self.MAX_CHANGE, self.MAX_TICKS)
        if index is not None:
            raise InvalidWeather(index)
        self._changes = changes

    @classmethod
    def constant(cls, change):
        """Return the weather with one change."""
        return cls(change)

    @property
    def changes(self):
        """The tuple of the changes."""
        return self._changes

    def __len__(self):
        return len(self._changes)

    def __getitem__(self, at):
        check_number(at, 0, MOST_TICKS)
        return self._changes[at % len(self._changes)]

    def __iter__(self):
        raise TypeError("weather cannot be iterated over: it has no end")

    def __call__(self, count):
        """Return the sum of the changes in the first so many ticks."""
        check_number(count, 0, MOST_TICKS)
        return sum_of_first(self._changes, count)

    def __eq__(self, other):
        return isinstance(other, Weather) and same_rounds(self._changes, other.changes)

    def __add__(self, other):
        both = added_rounds(self._changes, other.changes)
        return Weather(*both)

    def __neg__(self):
        opposite = [-change for change in self._changes]
        return Weather(*opposite)

    def __sub__(self, other):
        return self + -other

    def __mul__(self, times):
        multiplied = [change * times for change in self._changes]
        return Weather(*multiplied)

    def later(self, ticks):
        """Return the weather that begins so many ticks later."""
        check_number(ticks, 0, MOST_TICKS)
        first = ticks % len(self._changes)
        turned = self._changes[first:] + self._changes[:first]
        return Weather(*turned)
