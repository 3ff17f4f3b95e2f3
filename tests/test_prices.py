"""Points 12 and 13: prices, and what heating costs."""

import random
import unittest
from math import gcd, lcm

from simulation import FAR, LIMIT, Simulation, long_simulation, random_cases, wide_cases
from warmswitch.errors import InvalidNumber, InvalidPrices
from warmswitch.prices import Prices, cost_share, first_over, heating_cost
from warmswitch.rooms import Heater, Room
from warmswitch.weathers import Weather

MOST = 10 ** 6
BUDGET = 10 ** 30


def random_cents(chance):
    most = chance.choice((1, 5, 100, MOST))
    return tuple(chance.randint(0, most) for _ in range(chance.choice((1, 2, 3, 5, 7, 23, 24))))


class PricesTest(unittest.TestCase):

    def assert_invalid(self, index, call, *arguments):
        with self.assertRaises(InvalidPrices) as caught:
            call(*arguments)
        self.assertIs(type(caught.exception), InvalidPrices)
        self.assertEqual(caught.exception.index, index, arguments)

    def assert_invalid_number(self, call, *arguments):
        with self.assertRaises(InvalidNumber) as caught:
            call(*arguments)
        self.assertIs(type(caught.exception), InvalidNumber)

    def test_class_values(self):
        self.assertEqual((Prices.MAX_TICKS, Prices.MAX_PRICE), (24, 10 ** 6))

    def test_cents(self):
        for cents in ((0,), (MOST,), (2, 5), tuple(range(24)), (MOST,) * 24):
            self.assertEqual(Prices(*cents).cents, cents)
            self.assertIs(type(Prices(*cents).cents), tuple)
            self.assertEqual(len(Prices(*cents)), len(cents))

    def test_invalid_ones(self):
        self.assert_invalid(0, Prices)
        for index, cents in (
            (0, (-1,)), (0, (MOST + 1,)), (1, (5, -1)), (1, (5, MOST + 1, -1)), (23, (1,) * 23 + (-1,)),
            (24, (1,) * 25), (24, (1,) * 24 + (-1,)), (24, (1,) * 40), (3, (1,) * 3 + (-1,) * 40),
            (1, (0, 10 ** 5000)),
        ):
            self.assert_invalid(index, Prices, *cents)

    def test_the_price_in_a_tick(self):
        prices = Prices(2, 5, 0)
        self.assertEqual([prices[tick] for tick in range(7)], [2, 5, 0, 2, 5, 0, 2])
        self.assertEqual([prices[FAR - 1], prices[FAR]], [2, 5])
        for tick in (-1, -3, FAR + 1):
            self.assert_invalid_number(prices.__getitem__, tick)

    def test_the_sum_of_the_first_prices(self):
        chance = random.Random(12)
        for _ in range(40):
            cents = random_cents(chance)
            prices = Prices(*cents)
            self.assertEqual([prices(count) for count in range(60)],
                             [sum(cents[tick % len(cents)] for tick in range(count)) for count in range(60)])
            for count in (FAR, FAR - 1, 10 ** 17 + 3):
                self.assertEqual(prices(count) - prices(count - 1), prices[count - 1])
        self.assertEqual(Prices(2, 5)(FAR), 7 * FAR // 2)
        self.assertEqual(Prices(MOST)(FAR), MOST * FAR)
        for count in (-1, FAR + 1):
            self.assert_invalid_number(Prices(2, 5), count)

    def test_multiplied_ones(self):
        prices = Prices(2, 5)
        for times, cents in ((0, (0, 0)), (1, (2, 5)), (3, (6, 15)), (200000, (400000, MOST))):
            self.assertEqual((prices * times).cents, cents)
        self.assert_invalid(1, prices.__mul__, 200001)
        self.assert_invalid(0, prices.__mul__, 500001)
        self.assert_invalid(0, prices.__mul__, -1)
        self.assert_invalid(1, Prices(0, 5).__mul__, -1)
        self.assertEqual((Prices(0) * -7).cents, (0,))
        self.assertEqual((Prices(0, 0) * 10 ** 50).cents, (0, 0))
        self.assertEqual(prices.cents, (2, 5))

    def test_equal_ones(self):
        self.assertEqual(Prices(2, 5), Prices(2, 5, 2, 5))
        self.assertEqual(Prices(2, 5, 2, 5), Prices(2, 5, 2, 5, 2, 5))
        self.assertEqual(Prices(7), Prices(*(7,) * 23))
        self.assertIs(Prices(2, 5) == Prices(2, 5), True)
        for other in (Prices(5, 2), Prices(2), Prices(2, 5, 2), Prices(2, 5, 2, 6), Prices(*(2, 5) * 11, 2, 4)):
            self.assertIs(Prices(2, 5) == other, False)
            self.assertIs(other == Prices(2, 5), False)
            self.assertIs(Prices(2, 5) != other, True)

    def test_equal_to_nothing_else(self):
        for other in ((2, 5), [2, 5], 7, "2, 5", None, Weather(2, 5)):
            self.assertIs(Prices(2, 5) == other, False)
            self.assertIs(other == Prices(2, 5), False)

    def test_no_iteration(self):
        for call in (iter, list, sum, sorted):
            self.assertRaises(TypeError, call, Prices(2, 5))
        with self.assertRaises(TypeError):
            for _ in Prices(2, 5):
                pass
        with self.assertRaises(TypeError):
            2 in Prices(2, 5)


class CostTest(unittest.TestCase):

    def priced_cases(self):
        chance = random.Random(13)
        return [(case, random_cents(chance)) for case in random_cases(13, 120)]

    def test_near_costs(self):
        for case, cents in self.priced_cases():
            simulation = Simulation(case, 300)
            room, prices = case.room(), Prices(*cents)
            cost, expected = 0, []
            for tick, on in enumerate(simulation.heated):
                expected.append(cost)
                cost += cents[tick % len(cents)] if on else 0
            found = [heating_cost(room, prices, count) for count in range(300)]
            self.assertEqual(found, expected, (case, cents))

    def far_cost(self, case, cents, count):
        """The cost by the repetition that a simulation finds, or None if it finds none."""
        simulation = long_simulation(case)
        repetition = simulation.repetition(case)
        if repetition is None:
            return None
        first, ticks = repetition
        ticks = lcm(ticks, len(cents))
        simulation = Simulation(case, first + ticks)
        each = [cents[tick % len(cents)] if on else 0 for tick, on in enumerate(simulation.heated)]
        rounds, rest = divmod(count - first, ticks)
        return sum(each[:first]) + rounds * sum(each[first:]) + sum(each[first:first + rest])

    def test_far_costs(self):
        seen = 0
        for case, cents in self.priced_cases():
            for count in (FAR, FAR - 1, 10 ** 17 + 12345, 10 ** 9):
                expected = self.far_cost(case, cents, count)
                if expected is not None:
                    seen += 1
                    self.assertEqual(heating_cost(case.room(), Prices(*cents), count), expected, (case, cents))
        self.assertGreater(seen, 200)

    def test_steps_far_away(self):
        chance = random.Random(14)
        for case in random_cases(14, 40) + wide_cases():
            room, prices = case.room(), Prices(*random_cents(chance))
            switching = room.nth_switching(chance.randint(1, 9)) or 5
            for place in (min(switching, FAR - 40), LIMIT, 10 ** 15 + 7, FAR - 40):
                for tick in range(max(0, place - 20), place + 40):
                    step = heating_cost(room, prices, tick + 1) - heating_cost(room, prices, tick)
                    self.assertEqual(step, prices[tick] if room.is_on(tick) else 0, (case, prices.cents, tick))

    def test_prices_of_one_cent_count_the_heating(self):
        for case in random_cases(15, 40) + wide_cases():
            room = case.room()
            for count in (0, 1, 77, 10 ** 12 + 3, FAR):
                self.assertEqual(heating_cost(room, Prices(1), count), room.heating_ticks(count), case)
                self.assertEqual(heating_cost(room, Prices(MOST), count), MOST * room.heating_ticks(count), case)
                self.assertEqual(heating_cost(room, Prices(0, 0), count), 0, case)

    def test_a_heater_that_stays_as_it_is(self):
        prices = Prices(3, 4)
        always = Room(Weather(-5), Heater(4, 18, 20), 20)
        never = Room(Weather(0), Heater(4, 18, 20), 20)
        level = Room(Weather(-5), Heater(5, 18, 20), 20)
        self.assertEqual([heating_cost(always, prices, count) for count in (0, 1, 2, 3)], [0, 0, 4, 7])
        self.assertEqual(heating_cost(always, prices, FAR), 7 * FAR // 2 - 3)
        self.assertEqual(heating_cost(level, prices, FAR), 7 * FAR // 2 - 3)
        self.assertEqual(heating_cost(never, prices, FAR), 0)
        self.assertEqual([cost_share(room, prices) for room in (always, level, never)], [(7, 2), (7, 2), (0, 1)])

    def test_counts_beyond_their_limits(self):
        room = Room(Weather(-1), Heater(3, 18, 21), 20)
        for count in (-1, FAR + 1, -10 ** 5000):
            with self.assertRaises(InvalidNumber) as caught:
                heating_cost(room, Prices(2, 5), count)
            self.assertIs(type(caught.exception), InvalidNumber)

    def test_first_over(self):
        chance = random.Random(16)
        for case, cents in self.priced_cases() + [(case, random_cents(chance)) for case in wide_cases()]:
            room, prices = case.room(), Prices(*cents)
            whole = heating_cost(room, prices, FAR)
            for budget in (0, 1, whole // 3, whole - 1, whole, whole + 1, chance.randint(0, 2 * whole + 1)):
                if budget >= 0:
                    self.assert_first_over(room, prices, budget, whole)

    def assert_first_over(self, room, prices, budget, whole):
        count = first_over(room, prices, budget)
        if budget >= whole:
            self.assertIsNone(count)
            return
        self.assertLessEqual(count, FAR)
        self.assertGreater(heating_cost(room, prices, count), budget)
        self.assertLessEqual(heating_cost(room, prices, count - 1), budget)

    def test_first_over_by_ticks(self):
        room = Room(Weather(-1), Heater(3, 18, 21), 20)
        costs = [heating_cost(room, Prices(2, 5), count) for count in range(400)]
        for budget in range(150):
            expected = [count for count in range(400) if costs[count] > budget][0]
            self.assertEqual(first_over(room, Prices(2, 5), budget), expected)

    def test_budgets_at_their_limits(self):
        room = Room(Weather(-100), Heater(1, 18, 21), 17)
        self.assertEqual(first_over(room, Prices(1), 0), 1)
        self.assertEqual(first_over(room, Prices(0, 0, 1), 0), 3)
        self.assertEqual(first_over(room, Prices(1), FAR - 1), FAR)
        self.assertIsNone(first_over(room, Prices(1), FAR))
        self.assertEqual(first_over(room, Prices(MOST), MOST * FAR - 1), FAR)
        self.assertIsNone(first_over(room, Prices(MOST), MOST * FAR))
        self.assertIsNone(first_over(room, Prices(MOST), BUDGET))
        self.assertIsNone(first_over(room, Prices(0), 0))
        self.assertIsNone(first_over(Room(Weather(0), Heater(1, 18, 21), 18), Prices(1), 0))
        for budget in (-1, BUDGET + 1):
            with self.assertRaises(InvalidNumber) as caught:
                first_over(room, Prices(1), budget)
            self.assertIs(type(caught.exception), InvalidNumber)

    def test_cost_share(self):
        seen = 0
        for case, cents in self.priced_cases():
            found = cost_share(case.room(), Prices(*cents))
            self.assertIs(type(found), tuple)
            self.assertGreater(found[1], 0)
            self.assertEqual(gcd(*found), 1)
            ticks = 24 * 1000 * lcm(len(case.changes), len(cents))
            repetition = long_simulation(case).repetition(case)
            if repetition is not None:
                seen += 1
                ticks = lcm(repetition[1], len(cents))
            cost = heating_cost(case.room(), Prices(*cents), FAR) - heating_cost(case.room(), Prices(*cents),
                                                                                FAR - ticks)
            self.assertEqual(found[0] * ticks, found[1] * cost, (case, cents))
        self.assertGreater(seen, 50)

    def test_cost_share_of_nothing(self):
        heated, cold = Room(Weather(-100), Heater(1, 0, 0), 0), Room(Weather(100), Heater(1, 0, 0), 0)
        self.assertEqual([cost_share(heated, Prices(0)), cost_share(heated, Prices(0, 0, 0))], [(0, 1)] * 2)
        self.assertEqual([cost_share(cold, Prices(9)), cost_share(cold, Prices(0, 4))], [(0, 1)] * 2)
        self.assertEqual([cost_share(heated, Prices(6, 0)), cost_share(heated, Prices(5, 0))], [(3, 1), (5, 2)])
        mixed = Room(Weather(-1), Heater(1, 0, 0), 5)
        self.assertEqual(cost_share(mixed, Prices(0, 0)), (0, 1))

    def test_prices_that_miss_the_heating(self):
        # Every heated tick is an odd one.
        room = Room(Weather(-2), Heater(4, 0, 0), 1)
        self.assertEqual([room.is_on(tick) for tick in range(4)], [False, True, False, True])
        self.assertEqual(cost_share(room, Prices(7, 0)), (0, 1))
        self.assertEqual(cost_share(room, Prices(0, 7)), (7, 2))
        self.assertEqual(heating_cost(room, Prices(7, 0), FAR), 0)
        self.assertIsNone(first_over(room, Prices(7, 0), 0))

    def test_repeated_calls(self):
        room, prices = Room(Weather(-2, -1, 0), Heater(4, 18, 20), 20), Prices(3, 1, 4, 1, 5)
        for call in (lambda: heating_cost(room, prices, 10 ** 17), lambda: first_over(room, prices, 10 ** 17),
                     lambda: cost_share(room, prices), lambda: room.heating_ticks(10 ** 17)):
            self.assertEqual(call(), call())
        self.assertEqual(prices.cents, (3, 1, 4, 1, 5))


if __name__ == "__main__":
    unittest.main()
