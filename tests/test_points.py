"""Points, tables and linear equations with fractions ([3])."""

import copy
import random
import unittest
from fractions import Fraction

from endlessnets.points import carried, common, is_point, part, point_dot, point_minus, point_of, point_plus
from endlessnets.points import point_times, solved, table_determinant, table_inverse, table_of, table_times, whole
from endlessnets.points import whole_matrix
from endlessnets.ratios import is_fraction
from endlessnets.vectors import identity
from test_vectors import plain_determinant
from tools import ANY_VALUES, outcome, raised

BIG = 10 ** 39 + 7


def told(fraction):
    fraction = Fraction(fraction)
    return (fraction.numerator, fraction.denominator)


def told_all(fractions):
    return tuple(told(fraction) for fraction in fractions)


def meant(point):
    return [Fraction(*item) for item in point]


def random_point(chance, size, bound=9):
    return told_all(Fraction(chance.randint(-bound, bound), chance.randint(1, bound)) for _ in range(size))


def random_table(chance, size, bound=9):
    return tuple(random_point(chance, size, bound) for _ in range(size))


class KindsOfValuesTest(unittest.TestCase):
    def test_points(self):
        for size in (1, 2, 3):
            value = ((-3, 2),) * size
            self.assertIs(is_point(value, size), True)
            for wrong in ((2, 4), (1, 0), (1, -1), (0, 2), (True, 1), (1, True), [1, 2], (1,), 1, None):
                for at in range(size):
                    self.assertIs(is_point(value[:at] + (wrong,) + value[at + 1:], size), False)
            for wrong in (list(value), value[1:], value + value[:1], (1,) * size):
                self.assertIs(is_point(wrong, size), False)
        self.assertIs(is_point(directions=1, value=((0, 1),)), True)

    def test_any_values(self):
        for value in ANY_VALUES:
            for size in (1, 2, 3):
                self.assertIs(is_point(value, size), False, value)


class CountingTest(unittest.TestCase):
    def test_made(self):
        self.assertEqual(point_of((3, -BIG, 0)), ((3, 1), (-BIG, 1), (0, 1)))
        self.assertEqual(point_of(vector=(3,)), ((3, 1),))
        self.assertEqual(table_of(((1, 2), (3, 4))), (((1, 1), (2, 1)), ((3, 1), (4, 1))))
        self.assertEqual(table_of(matrix=((5,),)), (((5, 1),),))

    def test_points(self):
        chance = random.Random(11)
        for size in (1, 2, 3):
            for bound in (9, BIG):
                one, other = random_point(chance, size, bound), random_point(chance, size, bound)
                left, right = meant(one), meant(other)
                self.assertEqual(point_plus(one, other), told_all(a + b for a, b in zip(left, right)))
                self.assertEqual(point_minus(one, other), told_all(a - b for a, b in zip(left, right)))
                self.assertEqual(point_minus(one, one), ((0, 1),) * size)
                self.assertEqual(point_times(one, (-3, 7)), told_all(a * Fraction(-3, 7) for a in left))
                self.assertEqual(point_times(one, (0, 1)), ((0, 1),) * size)
                self.assertEqual(point_dot(one, other), told(sum(a * b for a, b in zip(left, right))))
                self.assertEqual(common([one]), min_common([one]))

    def test_products(self):
        chance = random.Random(12)
        for size in (1, 2, 3):
            point = random_point(chance, size)
            one, other = random_table(chance, size), random_table(chance, size)
            columns = [[Fraction(*one[row][at]) for row in range(size)] for at in range(size)]
            expected = told_all(sum(a * b for a, b in zip(meant(point), column)) for column in columns)
            self.assertEqual(carried(point, one), expected)
            self.assertEqual(table_times(one, other), tuple(carried(row, other) for row in one))
            self.assertEqual(carried(carried(point, one), other), carried(point, table_times(one, other)))

    def test_by_name(self):
        half, third = ((1, 2),), ((1, 3),)
        self.assertEqual(point_plus(other=third, one=half), ((5, 6),))
        self.assertEqual(point_minus(other=third, one=half), ((1, 6),))
        self.assertEqual(point_times(fraction=(2, 1), point=half), ((1, 1),))
        self.assertEqual(point_dot(other=third, one=half), (1, 6))
        self.assertEqual(carried(table=(third,), point=half), ((1, 6),))
        self.assertEqual(table_times(other=(third,), one=(half,)), (((1, 6),),))
        self.assertEqual(table_determinant(table=(half,)), (1, 2))
        self.assertEqual(table_inverse(table=(half,)), (((2, 1),),))
        self.assertEqual(part(point=((-1, 3),)), ((2, 3),))
        self.assertEqual([whole(point=half), whole(point=((4, 1),))], [None, (4,)])
        self.assertEqual([whole_matrix(table=(half,)), whole_matrix(table=(((4, 1),),))], [None, ((4,),)])
        self.assertEqual(common(points=[half, third]), 6)
        self.assertEqual(solved(results=[(1, 3)], rows=[half]), ((2, 3),))


def min_common(points):
    number = 1
    for point in points:
        for item in meant(point):
            number = number * (item * number).denominator
    return number


class TableTest(unittest.TestCase):
    def test_determinants(self):
        chance = random.Random(13)
        for size in (1, 2, 3):
            for bound in (2, 9, BIG):
                table = random_table(chance, size, bound)
                self.assertEqual(table_determinant(table), told(plain_determinant([meant(row) for row in table])))

    def test_inverses(self):
        chance = random.Random(14)
        for size in (1, 2, 3):
            for bound in (3, 9, BIG):
                table = random_table(chance, size, bound)
                if table_determinant(table) == (0, 1):
                    continue
                inverse = table_inverse(table)
                self.assertEqual(table_times(table, inverse), table_of(identity(size)))
                self.assertEqual(table_times(inverse, table), table_of(identity(size)))
                for row in inverse:
                    self.assertIs(is_point(row, size), True)
        self.assertEqual(table_inverse((((2, 3), (-1, 3)), ((-1, 3), (2, 3)))), (((2, 1), (1, 1)), ((1, 1), (2, 1))))

    def test_singular(self):
        half = (1, 2)
        for table in ((((0, 1),),), ((half, half), (half, half)), (((0, 1),) * 3, (half,) * 3, ((1, 1),) * 3)):
            self.assertEqual(table_determinant(table), (0, 1))
            self.assertEqual(outcome(table_inverse, table), raised("Singular"))


class WholeTest(unittest.TestCase):
    def test_parts(self):
        self.assertEqual(part(((-1, 3), (7, 2), (-4, 1))), ((2, 3), (1, 2), (0, 1)))
        self.assertEqual(part(((0, 1),)), ((0, 1),))
        self.assertEqual(part(((-BIG, 2), (-5, 7))), ((1, 2), (2, 7)))
        chance = random.Random(15)
        for size in (1, 2, 3):
            point = random_point(chance, size, 50)
            self.assertEqual(part(point), told_all(item - item.__floor__() for item in meant(point)))

    def test_whole(self):
        self.assertEqual(whole(((3, 1), (-BIG, 1), (0, 1))), (3, -BIG, 0))
        self.assertIsNone(whole(((3, 1), (1, 2), (0, 1))))
        self.assertIsNone(whole(((3, 1), (0, 1), (-1, 2))))
        self.assertEqual(whole_matrix(table_of(((1, 2), (3, 4)))), ((1, 2), (3, 4)))
        self.assertIsNone(whole_matrix((((1, 1), (2, 1)), ((3, 1), (4, 3)))))
        self.assertEqual(whole_matrix(table_of(identity(3))), identity(3))

    def test_common(self):
        self.assertEqual(common([]), 1)
        self.assertEqual(common([((3, 1), (0, 1))]), 1)
        self.assertEqual(common([((1, 4), (5, 6)), ((1, 9), (2, 1))]), 36)
        self.assertEqual(common((((1, 4),), ((1, 6),))), 12)
        self.assertEqual(common([((1, BIG),), ((1, 2),)]), min_common([((1, BIG),), ((1, 2),)]))


class SolvedTest(unittest.TestCase):
    def check(self, rows, results):
        passed = copy.deepcopy((rows, results))
        found = solved(rows, results)
        self.assertEqual((rows, results), passed)
        self.assertEqual(solved(rows, results), found)
        if found is not None:
            self.assertIsInstance(found, tuple)
            self.assertEqual(len(found), len(rows[0]))
            self.assertTrue(all(is_fraction(item) for item in found))
            self.assertEqual([point_dot(row, found) for row in rows], list(results))
        return found

    def test_one_row(self):
        self.assertEqual(self.check([((3, 1),)], [(2, 1)]), ((2, 3),))
        self.assertEqual(self.check([((0, 1),)], [(0, 1)])[0][1] > 0, True)
        self.assertIsNone(self.check([((0, 1),)], [(2, 1)]))
        self.assertIsNotNone(self.check([((0, 1), (1, 2), (-2, 3))], [(5, 7)]))
        self.assertIsNone(self.check([((0, 1), (0, 1), (0, 1))], [(5, 7)]))

    def test_rows_that_depend_on_others(self):
        rows = [((1, 1), (2, 1)), ((2, 1), (4, 1)), ((1, 2), (1, 1))]
        self.assertIsNotNone(self.check(rows, [(3, 1), (6, 1), (3, 2)]))
        self.assertIsNone(self.check(rows, [(3, 1), (6, 1), (1, 1)]))
        self.assertIsNotNone(self.check([((0, 1), (0, 1)), ((0, 1), (1, 1))], [(0, 1), (1, 1)]))

    def test_more_and_fewer_rows_than_columns(self):
        chance = random.Random(16)
        for many, width in ((1, 4), (2, 3), (3, 3), (5, 3), (6, 2), (4, 1), (7, 7)):
            rows = [random_point(chance, width) for _ in range(many)]
            wanted = random_point(chance, width)
            results = [point_dot(row, wanted) for row in rows]
            found = self.check(rows, results)
            self.assertIsNotNone(found)
            if many >= width:
                self.assertEqual(found, wanted)
            if many > width:
                self.assertIsNone(self.check(rows, results[:-1] + [point_plus((results[-1],), ((1, 9),))[0]]))
        self.assertIsNotNone(self.check(tuple(random_point(chance, 3) for _ in range(2)), ((1, 1), (BIG, 7))))

    def test_large_numbers(self):
        chance = random.Random(17)
        rows = [random_point(chance, 4, BIG) for _ in range(4)]
        wanted = random_point(chance, 4, BIG)
        self.assertEqual(self.check(rows, [point_dot(row, wanted) for row in rows]), wanted)


if __name__ == "__main__":
    unittest.main()
