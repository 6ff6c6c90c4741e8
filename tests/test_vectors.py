"""Vectors and matrices with numbers ([3], [29])."""

import itertools
import random
import unittest

from endlessnets.vectors import determinant, dot, identity, is_matrix, is_unimodular, is_vector, led, matrix_times
from endlessnets.vectors import order_of, power, unimodular_inverse, unit, vector_minus, vector_plus, vector_times, zero
from tools import ANY_VALUES, outcome, raised

BIG = 10 ** 39 + 7
NO_UNIMODULAR = [((1, 0), (0, 2)), ((0,),), ((2,),), ((1, 1), (1, 1)), [(1,)], ([1],), ((True,),), ((1, 0), (0, True)),
                 ((1, 0),), ((1, 0), (0,)), (), ((),), ((1, 0, 0), (0, 1, 0)), None, True, 1, "a", {}, ("a",),
                 tuple(tuple(int(row == column) for column in range(4)) for row in range(4))]


def plain_determinant(matrix):
    result = 0
    for order in itertools.permutations(range(len(matrix))):
        product = 1
        for row, column in enumerate(order):
            product *= matrix[row][column]
        swaps = sum(order[one] > order[other] for one, other in itertools.combinations(range(len(order)), 2))
        result += product * (-1) ** swaps
    return result


def random_matrix(chance, size, bound):
    return tuple(tuple(chance.randint(-bound, bound) for _ in range(size)) for _ in range(size))


def random_unimodular(chance, size):
    matrix = identity(size)
    for _ in range(6):
        rows = [list(row) for row in identity(size)]
        one, other = chance.randrange(size), chance.randrange(size)
        rows[one][other] = chance.choice([-1, 1]) if one == other else chance.randint(-3, 3)
        matrix = matrix_times(matrix, tuple(tuple(row) for row in rows))
    return matrix


class KindsOfValuesTest(unittest.TestCase):
    def test_vectors(self):
        for size in (1, 2, 3):
            for value in ((0,) * size, (-BIG,) * size, tuple(range(size))):
                self.assertIs(is_vector(value, size), True)
                self.assertIs(is_vector(list(value), size), False)
                self.assertIs(is_vector(value + (0,), size), False)
                self.assertIs(is_vector(value[1:], size), False)
                for wrong in (True, False, None, "1", (1,), [1]):
                    for at in range(size):
                        self.assertIs(is_vector(value[:at] + (wrong,) + value[at + 1:], size), False)
        self.assertIs(is_vector(directions=2, value=(1, 2)), True)

    def test_matrices(self):
        for size in (1, 2, 3):
            matrix = ((3,) * size,) * size
            self.assertIs(is_matrix(matrix, size), True)
            self.assertIs(is_unimodular(matrix, size), False)
            self.assertIs(is_unimodular(identity(size), size), True)
            for wrong in (list(matrix), matrix[1:], matrix + matrix[:1], tuple(list(row) for row in matrix),
                          matrix[1:] + ((True,) * size,), matrix[1:] + ((3,) * (size + 1),), None):
                self.assertIs(is_matrix(wrong, size), False)
                self.assertIs(is_unimodular(wrong, size), False)
        self.assertIs(is_matrix(directions=1, value=((1,),)), True)
        self.assertIs(is_unimodular(directions=1, value=((-1,),)), True)

    def test_any_values(self):
        for value in ANY_VALUES:
            for size in (1, 2, 3):
                numbers = isinstance(value, tuple) and all(type(item) is int for item in value)
                self.assertIs(is_vector(value, size), numbers and len(value) == size, value)
                expected = (value, size) in [(((1, 0), (0, 1)), 2), (((1,),), 1)]
                self.assertIs(is_matrix(value, size), expected, value)
                self.assertIs(is_unimodular(value, size), expected, value)
        self.assertIs(is_unimodular(((1, 0), (0, True)), 2), False)


class CountingTest(unittest.TestCase):
    def test_made(self):
        self.assertEqual([zero(1), zero(2), zero(directions=3)], [(0,), (0, 0), (0, 0, 0)])
        self.assertEqual([unit(1, 0), unit(2, 1), unit(at=1, directions=3)], [(1,), (0, 1), (0, 1, 0)])
        self.assertEqual([identity(1), identity(2)], [((1,),), ((1, 0), (0, 1))])
        self.assertEqual(identity(directions=3), ((1, 0, 0), (0, 1, 0), (0, 0, 1)))

    def test_vectors(self):
        chance = random.Random(5)
        for size in (1, 2, 3):
            for bound in (3, BIG):
                one = tuple(chance.randint(-bound, bound) for _ in range(size))
                other = tuple(chance.randint(-bound, bound) for _ in range(size))
                self.assertEqual(vector_plus(one, other), tuple(one[at] + other[at] for at in range(size)))
                self.assertEqual(vector_minus(one, other), tuple(one[at] - other[at] for at in range(size)))
                self.assertEqual(vector_times(one, -7), tuple(-7 * one[at] for at in range(size)))
                self.assertEqual(vector_times(one, 0), zero(size))
                self.assertEqual(dot(one, other), sum(one[at] * other[at] for at in range(size)))

    def test_products(self):
        self.assertEqual(led((1, 2), ((3, 4), (5, 6))), (13, 16))
        self.assertEqual(matrix_times(((1, 2), (0, 1)), ((3, 4), (5, 6))), ((13, 16), (5, 6)))
        self.assertEqual(led((2,), ((-5,),)), (-10,))
        chance = random.Random(6)
        for size in (1, 2, 3):
            one, other = random_matrix(chance, size, 9), random_matrix(chance, size, BIG)
            vector = one[0]
            expected = tuple(sum(vector[at] * other[at][to] for at in range(size)) for to in range(size))
            self.assertEqual(led(vector, other), expected)
            self.assertEqual(matrix_times(one, other), tuple(led(row, other) for row in one))
            self.assertEqual(led(led(vector, one), other), led(vector, matrix_times(one, other)))

    def test_determinants(self):
        chance = random.Random(7)
        for size in (1, 2, 3):
            for bound in (1, 5, BIG):
                for _ in range(10):
                    matrix = random_matrix(chance, size, bound)
                    self.assertEqual(determinant(matrix), plain_determinant(matrix))
                    self.assertIs(is_unimodular(matrix, size), plain_determinant(matrix) in (1, -1))

    def test_by_name(self):
        self.assertEqual(vector_plus(other=(1,), one=(5,)), (6,))
        self.assertEqual(vector_minus(other=(1,), one=(5,)), (4,))
        self.assertEqual(vector_times(number=2, vector=(5,)), (10,))
        self.assertEqual(dot(other=(2,), one=(5,)), 10)
        self.assertEqual(led(matrix=((3,),), vector=(5,)), (15,))
        self.assertEqual(matrix_times(other=((0, 1), (1, 0)), one=((1, 2), (3, 4))), ((2, 1), (4, 3)))
        self.assertEqual(determinant(matrix=((2, 1), (1, 3))), 5)


class UnimodularTest(unittest.TestCase):
    def test_inverses(self):
        chance = random.Random(8)
        for size in (1, 2, 3):
            for _ in range(20):
                matrix = random_unimodular(chance, size)
                inverse = unimodular_inverse(matrix)
                self.assertEqual(matrix_times(matrix, inverse), identity(size))
                self.assertEqual(matrix_times(inverse, matrix), identity(size))
                self.assertIs(is_unimodular(inverse, size), True)
        self.assertEqual(unimodular_inverse(matrix=((-1,),)), ((-1,),))
        self.assertEqual(unimodular_inverse(((1, BIG), (0, -1))), ((1, BIG), (0, -1)))

    def test_powers(self):
        chance = random.Random(9)
        for size in (1, 2, 3):
            matrix = random_unimodular(chance, size)
            inverse = unimodular_inverse(matrix)
            self.assertEqual(power(matrix, 0), identity(size))
            self.assertEqual(power(matrix, 1), matrix)
            self.assertEqual(power(matrix, -1), inverse)
            ahead, back = identity(size), identity(size)
            for times in range(101):
                if times in (2, 3, 17, 99, 100):
                    self.assertEqual(power(matrix, times), ahead)
                    self.assertEqual(power(matrix, -times), back)
                ahead, back = matrix_times(ahead, matrix), matrix_times(back, inverse)
        self.assertEqual(power(times=2, matrix=((1, 1), (0, 1))), ((1, 2), (0, 1)))

    def test_orders(self):
        orders = {((1,),): 1, ((-1,),): 2, ((0, 1), (1, 0)): 2, ((0, 1), (-1, -1)): 3, ((0, 1), (-1, 0)): 4,
                  ((1, 1), (-1, 0)): 6, ((1, 1), (0, 1)): None, ((2, 1), (1, 1)): None,
                  ((0, 1, 0), (0, 0, 1), (1, 0, 0)): 3, ((0, -1, 0), (0, 0, -1), (-1, 0, 0)): 6,
                  ((0, -1, 0), (1, 0, 0), (0, 0, -1)): 4, ((1, 0, BIG), (0, 1, 0), (0, 0, 1)): None}
        for matrix, order in orders.items():
            self.assertEqual(order_of(matrix), order, matrix)
            if order is not None:
                self.assertEqual(power(matrix, order), identity(len(matrix)))
        self.assertEqual(order_of(matrix=identity(3)), 1)

    def test_wrong_matrices(self):
        for value in NO_UNIMODULAR:
            for function in (unimodular_inverse, order_of):
                self.assertEqual(outcome(function, value), raised("InvalidMatrix"), value)
            for times in (0, 1, 101, True, None):
                self.assertEqual(outcome(power, value, times), raised("InvalidMatrix"), value)
        for value in ANY_VALUES:
            if value not in [((1, 0), (0, 1)), ((1,),)]:
                self.assertEqual(outcome(unimodular_inverse, value), raised("InvalidMatrix"))

    def test_wrong_times(self):
        for times in [101, -101, 10 ** 39, True, False] + [value for value in ANY_VALUES if not isinstance(value, int)]:
            found = outcome(power, identity(2), times)
            self.assertEqual(found, raised("InvalidNumber", value=times))


if __name__ == "__main__":
    unittest.main()
