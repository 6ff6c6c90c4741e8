"""Fractions: tuples (n, m) of two numbers in lowest terms, with m from 1 on."""

from math import gcd

from endlessnets.errors import InvalidFraction, InvalidNumber
from endlessnets.words import is_integer_value

NOTHING = (0, 1)


def is_fraction(value):
    """Whether any value is a fraction."""
    if not isinstance(value, tuple) or len(value) != 2:
        return False
    over, under = value
    if not is_integer_value(over) or not is_integer_value(under):
        return False
    return under >= 1 and gcd(over, under) == 1


def ratio(over, under=1):
    """The fraction over / under of two numbers."""
    if under == 0:
        raise InvalidNumber(under)
    shared = gcd(over, under)
    if under < 0:
        shared = -shared
    return (over // shared, under // shared)


def plus(one, other):
    """The sum of two fractions."""
    return ratio(one[0] * other[1] + other[0] * one[1], one[1] * other[1])


def minus(one, other):
    """The difference one - other of two fractions."""
    return ratio(one[0] * other[1] - other[0] * one[1], one[1] * other[1])


def times(one, other):
    """The product of two fractions."""
    return ratio(one[0] * other[0], one[1] * other[1])


def divided(one, other):
    """The fraction one divided by other."""
    if other == NOTHING:
        raise InvalidFraction(other)
    return ratio(one[0] * other[1], one[1] * other[0])


def sign(one):
    """-1, 0 or 1, as a fraction is below, at or above 0."""
    if one[0] < 0:
        return -1
    return min(one[0], 1)


def is_less(one, other):
    """Whether one fraction is less by value than the other one."""
    return one[0] * other[1] < other[0] * one[1]


def floor_of(one):
    """The greatest number that is not above a fraction."""
    return one[0] // one[1]


def total(*fractions):
    """The sum of any number of fractions."""
    result = NOTHING
    for fraction in fractions:
        result = plus(result, fraction)
    return result
