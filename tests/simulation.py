"""A simulation tick by tick, and rooms to compare it with."""

import random

from warmswitch.rooms import Heater, Room
from warmswitch.weathers import Weather

FAR = 10 ** 18
LIMIT = 10 ** 12


class Case:
    """What a room is made of, and its name in the message of a failing test."""

    def __init__(self, changes, gain, low, high, start, on=False):
        self.changes = tuple(changes)
        self.gain = gain
        self.low = low
        self.high = high
        self.start = start
        self.on = on

    def __repr__(self):
        return f"Case{(self.changes, self.gain, self.low, self.high, self.start, self.on)}"

    def weather(self):
        return Weather(*self.changes)

    def room(self):
        return Room(self.weather(), Heater(self.gain, self.low, self.high), self.start, on=self.on)


class Simulation:
    """The first ticks of a room: `degrees[t]`, `heated[t]`, and the ticks of all switchings."""

    def __init__(self, case, ticks):
        self.degrees = []
        self.heated = []
        self.switchings = []
        degrees, on = case.start, case.on
        for tick in range(ticks):
            before = on
            if degrees < case.low:
                on = True
            elif degrees > case.high:
                on = False
            if on != before:
                self.switchings.append(tick)
            self.degrees.append(degrees)
            self.heated.append(on)
            degrees += case.changes[tick % len(case.changes)]
            if on:
                degrees += case.gain

    def repetition(self, case):
        """The repetition, found by the first state that comes again; None if none does."""
        known = {}
        for tick, (degrees, on) in enumerate(zip(self.degrees, self.heated)):
            state = (tick % len(case.changes), degrees, on)
            if state in known:
                return known[state], tick - known[state]
            known[state] = tick
        return None


def long_simulation(case):
    """A simulation that repeats, or that has come so far away that it never returns."""
    ticks = 2000
    while True:
        simulation = Simulation(case, ticks)
        if simulation.repetition(case) is not None or abs(simulation.degrees[-1]) > 5000:
            return simulation
        ticks *= 2


def kind_cases():
    """Cases of all kinds that the document tells apart, with thresholds that are soon reached."""
    cases = []
    day = (-3, -2, -5, 0, 1, 4, -1, -7, 2, 2, 0, -9, -3, 5, -6, 1, 0, -2, 3, -4, 1, -1, -8, 6)
    weathers = [
        (-1,), (0,), (2,), (-2, -1, 0), (3, -3), (5, -4, 1), (-100, 100), (-100,), (100,),
        (-7, 3, 3), day, tuple(change + 2 for change in day), tuple(-change for change in day),
    ]
    for changes in weathers:
        for gain in (1, 4, 37, 200):
            for low, high in ((18, 20), (-5, -5), (0, 90), (-300, 40)):
                for start in (low - 1, low, high, high + 1, 19, 150):
                    for on in (False, True):
                        cases.append(Case(changes, gain, low, high, start, on))
    return cases


def random_cases(seed, many):
    """As many cases as wanted, always the same ones for a seed."""
    chance = random.Random(seed)
    cases = []
    while len(cases) < many:
        size = chance.choice((1, 2, 3, 5, 8, 24))
        greatest = chance.choice((1, 3, 10, 100))
        changes = [chance.randint(-greatest, greatest) for _ in range(size)]
        gain = min(200, chance.choice((1, 2, 7, greatest, 2 * greatest)))
        low = chance.randint(-30, 30)
        high = low + chance.choice((0, 1, 2, 5, 30, 200))
        start = chance.randint(low - 40, high + 40)
        cases.append(Case(changes, gain, low, high, start, chance.random() < 0.5))
    return cases


def wide_cases():
    """Cases with thresholds and starts as far away as they may be."""
    day = (-3, -2, -5, 0, 1, 4, -1, -7, 2, 2, 0, -9, -3, 5, -6, 1, 0, -2, 3, -4, 1, -1, -8, 6)
    cases = []
    for changes, gain in (
        ((-1,), 3), ((-2, -1, 0), 4), (day, 11), ((-100,), 200), ((-99, 100, -2), 1), ((-1, 0), 1),
        ((-100,) * 24, 200), ((7, -8), 1), ((-100, 99), 200), ((-13, 5, 0, -2, 1), 9),
    ):
        for low, high in ((-LIMIT, LIMIT), (-LIMIT, -LIMIT), (LIMIT, LIMIT), (-7, LIMIT), (-LIMIT, 5)):
            for start in (-LIMIT, 0, LIMIT):
                for on in (False, True):
                    cases.append(Case(changes, gain, low, high, start, on))
    return cases
