"""Fractions, compared with those of Python ([3])."""

import random
import unittest
from fractions import Fraction

from endlessnets.ratios import divided, floor_of, is_fraction, is_less, minus, plus, ratio, sign, times, total
from tools import ANY_VALUES, outcome, raised

BIG = 10 ** 39 + 7


def pair(fraction):
    return (fraction.numerator, fraction.denominator)


def samples():
    chance = random.Random(3)
    found = [(0, 1), (1, 1), (-1, 1), (1, 2), (-1, 2), (2, 3), (-2, 3), (BIG, 1), (-BIG, 1), (1, BIG), (BIG, BIG - 1)]
    for _ in range(20):
        size = chance.choice([5, 100, 10 ** 20, BIG])
        found.append(pair(Fraction(chance.randint(-size, size), chance.randint(1, size))))
    return found


class FractionTest(unittest.TestCase):
    def test_right_ones(self):
        for value in samples():
            self.assertIs(is_fraction(value), True)

    def test_wrong_ones(self):
        for value in [(1, 0), (0, 0), (2, 4), (1, -2), (0, 2), (0, -1), (-2, -3), (True, 1), (1, True), (False, 1),
                      (False, True), [1, 2], [0, 1], (1,), (1, 2, 3), (), ("1", 2), (1, None), ((0, 1), (0, 1)), 1]:
            self.assertIs(is_fraction(value), False, value)

    def test_any_values(self):
        for value in ANY_VALUES:
            expected = isinstance(value, tuple) and value in [(1, 1)] and type(value[0]) is int
            self.assertIs(is_fraction(value), expected, value)
        self.assertIs(is_fraction(value=(3, 7)), True)


class RatioTest(unittest.TestCase):
    def test_lowest_terms(self):
        chance = random.Random(4)
        cases = [(0, 5), (0, -5), (4, 2), (-4, 2), (4, -2), (-4, -2), (BIG * 6, -BIG * 4), (1, -1), (7, 1)]
        cases += [(chance.randint(-BIG, BIG), chance.choice([-1, 1]) * chance.randint(1, BIG)) for _ in range(50)]
        for over, under in cases:
            found = ratio(over, under)
            self.assertEqual(found, pair(Fraction(over, under)))
            self.assertIs(is_fraction(found), True)

    def test_default_and_names(self):
        self.assertEqual(ratio(-6), (-6, 1))
        self.assertEqual(ratio(0), (0, 1))
        self.assertEqual(ratio(over=9), (9, 1))
        self.assertEqual(ratio(under=6, over=9), (3, 2))

    def test_nothing_below(self):
        for over in (0, 1, -3, BIG):
            self.assertEqual(outcome(ratio, over, 0), raised("InvalidNumber", value=0))


class CountingTest(unittest.TestCase):
    def test_of_two(self):
        for one in samples():
            for other in samples():
                left, right = Fraction(*one), Fraction(*other)
                self.assertEqual(plus(one, other), pair(left + right))
                self.assertEqual(minus(one, other), pair(left - right))
                self.assertEqual(times(one, other), pair(left * right))
                self.assertIs(is_less(one, other), left < right)
                if other == (0, 1):
                    self.assertEqual(outcome(divided, one, other), raised("InvalidFraction", value=(0, 1)))
                else:
                    self.assertEqual(divided(one, other), pair(left / right))

    def test_equal_and_opposite(self):
        for one in samples():
            opposite = (-one[0], one[1])
            self.assertEqual(minus(one, one), (0, 1))
            self.assertEqual(plus(one, opposite), (0, 1))
            self.assertIs(is_less(one, one), False)
            self.assertEqual(is_less(opposite, one), one[0] > 0)

    def test_of_one(self):
        for one in samples():
            self.assertEqual(floor_of(one), Fraction(*one).__floor__())
            self.assertEqual(sign(one), (one[0] > 0) - (one[0] < 0))
            self.assertIs(type(sign(one)), int)

    def test_total(self):
        self.assertEqual(total(), (0, 1))
        self.assertEqual(total((2, 3)), (2, 3))
        self.assertEqual(total(*samples()), pair(sum(Fraction(*one) for one in samples())))
        self.assertEqual(total((1, 2), (-1, 3), (-1, 6)), (0, 1))

    def test_by_name(self):
        self.assertEqual(plus(other=(1, 3), one=(1, 2)), (5, 6))
        self.assertEqual(minus(other=(1, 3), one=(1, 2)), (1, 6))
        self.assertEqual(times(other=(1, 3), one=(1, 2)), (1, 6))
        self.assertEqual(divided(other=(1, 3), one=(1, 2)), (3, 2))
        self.assertIs(is_less(other=(1, 3), one=(1, 2)), False)
        self.assertEqual(sign(one=(-1, 2)), -1)
        self.assertEqual(floor_of(one=(-1, 2)), -1)
        self.assertEqual(outcome(divided, one=(1, 2), other=(0, 1)), raised("InvalidFraction", value=(0, 1)))


if __name__ == "__main__":
    unittest.main()
