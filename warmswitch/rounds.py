"""Rounds: values of ticks, one for each, that repeat."""

from math import lcm


def first_invalid(values, least, greatest, most):
    """Return the index of the first value out of range or too many, 0 without values, or None."""
    for index, value in enumerate(values):
        if index >= most or not least <= value <= greatest:
            return index
    return 0 if len(values) == 0 else None


def sum_of_first(values, count):
    """Return the sum of the values of the first so many ticks."""
    rounds, rest = divmod(count, len(values))
    return rounds * sum(values) + sum(values[:rest])


def same_rounds(one, other):
    """Return whether two tuples of values are alike when they repeat."""
    many = lcm(len(one), len(other))
    return one * (many // len(one)) == other * (many // len(other))


def added_rounds(one, other):
    """Return the sums of two tuples of values, until both come to their ends together."""
    many = lcm(len(one), len(other))
    return [one[tick % len(one)] + other[tick % len(other)] for tick in range(many)]
