"""Prices of ticks with heating, and what the heating of a room costs."""

from warmswitch.errors import InvalidPrices, check_number
from warmswitch.rounds import first_invalid, same_rounds, sum_of_first
from warmswitch.weathers import MOST_TICKS

MOST_BUDGET = 10 ** 30


class Prices:
    """Prices of a tick with heating, one for each tick, again and again."""

    MAX_TICKS = 24
    MAX_PRICE = 1000000

    def __init__(self, *cents):
        index = first_invalid(cents, 0, self.MAX_PRICE, self.MAX_TICKS)
        if index is not None:
            raise InvalidPrices(index)
        self._cents = cents

    @property
    def cents(self):
        """The tuple of the prices."""
        return self._cents

    def __len__(self):
        return len(self._cents)

    def __getitem__(self, at):
        check_number(at, 0, MOST_TICKS)
        return self._cents[at % len(self._cents)]

    def __iter__(self):
        raise TypeError("prices cannot be iterated over: they have no end")

    def __call__(self, count):
        """Return the sum of the prices of the first so many ticks."""
        check_number(count, 0, MOST_TICKS)
        return sum_of_first(self._cents, count)

    def __eq__(self, other):
        return isinstance(other, Prices) and same_rounds(self._cents, other.cents)

    def __mul__(self, times):
        multiplied = [price * times for price in self._cents]
        return Prices(*multiplied)


def heating_cost(room, prices, count):
    """Return the price of all ticks with heating among the first so many ticks."""
    check_number(count, 0, MOST_TICKS)
    return room.course.heating_sum(prices.cents).sum_before(count)


def first_over(room, prices, budget):
    """Return the smallest number of ticks whose heating costs more than a budget, or None."""
    check_number(budget, 0, MOST_BUDGET)
    costs = room.course.heating_sum(prices.cents)
    if costs.sum_before(MOST_TICKS) <= budget:
        return None
    within, over = 0, MOST_TICKS
    while over - within > 1:
        middle = (within + over) // 2
        if costs.sum_before(middle) > budget:
            over = middle
        else:
            within = middle
    return over


def cost_share(room, prices):
    """Return the price of heating per tick in the long run, as a fraction in lowest terms."""
    return room.course.heating_sum(prices.cents).share()
