"""Live rooms, which are used step by step, and attempts that leave no trace."""

from warmswitch.errors import InvalidOperation, check_number
from warmswitch.rooms import MOST_DEGREES, Heater, Room
from warmswitch.weathers import MOST_TICKS, Weather

MOST_WAITED = 10 ** 15


class Spell:
    """The ticks of a live room from a first one on, as long as nothing is changed."""

    # Ticks are those of the live room here; only those of the room within begin with the spell.

    def __init__(self, weather, heater, begin, degrees, on, heated):
        self._weather = weather
        self._heater = heater
        self._begin = begin
        self._on = on
        self._heated = heated
        self._room = Room(weather.later(begin), heater, degrees, on=on)

    def degrees_in(self, tick):
        """Return the temperature at the beginning of a tick."""
        return self._room.temperature(tick - self._begin)

    def on_before(self, tick):
        """Return whether the heater was on in the tick before a tick."""
        if tick == self._begin:
            return self._on
        return self._room.is_on(tick - self._begin - 1)

    def heated_before(self, tick):
        """Return in how many ticks before a tick the heater was on."""
        return self._heated + self._room.heating_ticks(tick - self._begin)

    def switching_from(self, tick):
        """Return the first tick, from a tick on, in which the heater goes on or off, or None."""
        found = self._room.switching_from(tick - self._begin)
        return None if found is None else self._begin + found

    def with_heater(self, heater, tick):
        """Return the spell that follows if the heater is exchanged in a tick."""
        return self._followed(self._weather, heater, tick)

    def with_weather(self, weather, tick):
        """Return the spell that follows if a weather is added in a tick."""
        return self._followed(self._weather + weather, self._heater, tick)

    def _followed(self, weather, heater, tick):
        degrees = self.degrees_in(tick)
        return Spell(weather, heater, tick, degrees, self.on_before(tick), self.heated_before(tick))


class Moment:
    """A live room as it is after an operation, and the moment before the operation."""

    # A moment never changes: who goes back to an earlier one has reverted all since then.

    def __init__(self, spell, tick, operation, before):
        self.spell = spell
        self.tick = tick
        self.operation = operation
        self.before = before


class LiveRoom:
    """A room that is used step by step."""

    def __init__(self, weather, heater, start, *, on=False):
        self.moment = Moment(Spell(weather, heater, 0, start, on, 0), 0, None, None)

    @classmethod
    def replay(cls, weather, heater, start, *operations):
        """Return a live room after operations, which are as in a history, or undo."""
        live = cls(weather, heater, start)
        for index, operation in enumerate(operations):
            if not carry_out(live, operation):
                raise InvalidOperation(index)
        return live

    @property
    def now(self):
        """The present tick."""
        return self.moment.tick

    @property
    def warmth(self):
        """The temperature at the beginning of the present tick."""
        return self.moment.spell.degrees_in(self.moment.tick)

    @property
    def is_heated(self):
        """Whether the heater was on in the tick before."""
        return self.moment.spell.on_before(self.moment.tick)

    @property
    def heated_ticks(self):
        """In how many ticks the heater has been on."""
        return self.moment.spell.heated_before(self.moment.tick)

    @property
    def history(self):
        """The list of the operations in effect, in order."""
        operations = []
        moment = self.moment
        while moment.before is not None:
            operations.append(moment.operation)
            moment = moment.before
        return operations[::-1]

    def wait(self, count):
        """Let so many ticks pass, and return the temperature then."""
        check_number(count, 0, MOST_WAITED)
        spell, tick = self.moment.spell, self.moment.tick + count
        check_number(tick, 0, MOST_TICKS)
        degrees = spell.degrees_in(tick)
        check_number(degrees, -MOST_DEGREES, MOST_DEGREES)
        self.moment = Moment(spell, tick, ("wait", count), self.moment)
        return degrees

    def set_heater(self, heater):
        """Exchange the heater, which stays on or off at first."""
        tick = self.moment.tick
        spell = self.moment.spell.with_heater(heater, tick)
        self.moment = Moment(spell, tick, ("set_heater", heater), self.moment)

    def add_weather(self, weather):
        """Add a weather to the one that there is, as if both had begun in tick 0."""
        tick = self.moment.tick
        spell = self.moment.spell.with_weather(weather, tick)
        self.moment = Moment(spell, tick, ("add_weather", weather), self.moment)

    def undo(self):
        """Revert the last operation in effect, and return whether there was one."""
        if self.moment.before is None:
            return False
        self.moment = self.moment.before
        return True

    def next_switching(self):
        """Return the first tick, from the present one on, in which the heater switches, or None."""
        return self.moment.spell.switching_from(self.moment.tick)


def carry_out(live, operation):
    """Carry out an operation on a live room; return whether it has one of the forms."""
    if len(operation) == 1 and operation[0] == "undo":
        live.undo()
        return True
    if len(operation) != 2:
        return False
    name, argument = operation
    if name == "wait" and isinstance(argument, int) and not isinstance(argument, bool):
        live.wait(argument)
    elif name == "set_heater" and isinstance(argument, Heater):
        live.set_heater(argument)
    elif name == "add_weather" and isinstance(argument, Weather):
        live.add_weather(argument)
    else:
        return False
    return True


class Block:
    """A block of an attempt: the moment at its beginning, and the block around it."""

    def __init__(self, moment, outer):
        self.moment = moment
        self.outer = outer


class Attempt:
    """A context manager: at the end of its block, a live room is as it was at its beginning."""

    def __init__(self, live):
        self._live = live
        self._block = None

    def __enter__(self):
        self._block = Block(self._live.moment, self._block)
        return self._live

    def __exit__(self, kind, value, trace):
        live = self._live
        live.moment = self._block.moment
        self._block = self._block.outer
