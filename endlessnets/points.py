"""Points and tables: vectors and matrices of fractions."""

from math import gcd, lcm

from endlessnets.errors import Singular
from endlessnets.ratios import NOTHING, floor_of, is_fraction, minus, plus, ratio, times
from endlessnets.vectors import adjugate, determinant


def is_point(value, directions):
    """Whether any value is a point with so many fractions."""
    if not isinstance(value, tuple) or len(value) != directions:
        return False
    return all([is_fraction(item) for item in value])


def point_of(vector):
    """The point with the numbers of a vector."""
    return tuple([ratio(number) for number in vector])


def table_of(matrix):
    """The table with the numbers of a matrix."""
    return tuple([point_of(row) for row in matrix])


def point_plus(one, other):
    """The sum of two points."""
    return tuple([plus(left, right) for left, right in zip(one, other)])


def point_minus(one, other):
    """The difference one - other of two points."""
    return tuple([minus(left, right) for left, right in zip(one, other)])


def point_times(point, fraction):
    """A point times a fraction."""
    return tuple([times(item, fraction) for item in point])


def point_dot(one, other):
    """The sum of the products of the items."""
    result = NOTHING
    for left, right in zip(one, other):
        result = plus(result, times(left, right))
    return result


def carried(point, table):
    """The product of a point and a table."""
    return tuple([point_dot(point, column) for column in zip(*table)])


def table_times(one, other):
    """The product of two tables: first one, then other."""
    return tuple([carried(row, other) for row in one])


def common(points):
    """The least number from 1 on that makes all points of a list whole."""
    result = 1
    for point in points:
        for item in point:
            result = lcm(result, item[1])
    return result


def enlarged(point, number):
    """The numbers of a point times a number that makes it whole."""
    return tuple([over * (number // under) for over, under in point])


def table_determinant(table):
    """The determinant of a table."""
    scale = common(table)
    under = 1
    for _ in table:
        under = under * scale
    return ratio(determinant(tuple([enlarged(row, scale) for row in table])), under)


def table_inverse(table):
    """The table whose product with a table is the identity."""
    scale = common(table)
    matrix = tuple([enlarged(row, scale) for row in table])
    under = determinant(matrix)
    if under == 0:
        raise Singular()
    return tuple([tuple([ratio(number * scale, under) for number in row]) for row in adjugate(matrix)])


def part(point):
    """A point less the greatest whole numbers that are not above its fractions."""
    return tuple([minus(item, ratio(floor_of(item))) for item in point])


def whole(point):
    """The vector with the numbers of a point, None if the point is not whole."""
    if common([point]) != 1:
        return None
    return tuple([item[0] for item in point])


def whole_matrix(table):
    """The matrix with the numbers of a table, None if there is a fraction that is not whole."""
    if common(table) != 1:
        return None
    return tuple([whole(row) for row in table])


def primitive(numbers):
    """Numbers divided by their greatest common divisor."""
    shared = 0
    for number in numbers:
        shared = gcd(shared, number)
    if shared <= 1:
        return numbers
    return tuple([number // shared for number in numbers])


def cleared(numbers, chosen, at):
    """A row of an equation with 0 at an index, by means of the chosen row."""
    if numbers[at] == 0:
        return numbers
    shared = gcd(numbers[at], chosen[at])
    factor = chosen[at] // shared
    other = numbers[at] // shared
    return primitive(tuple([left * factor - right * other for left, right in zip(numbers, chosen)]))


def first_with(lines, at):
    """The index of the first row with a number at an index that is not 0, None if there is none."""
    for which, line in enumerate(lines):
        if line[at] != 0:
            return which
    return None


def solved(rows, results):
    """Fractions for which each row, with the sum of products, gives its result; None if there are none."""
    width = len(rows[0])
    equations = [(*row, result) for row, result in zip(rows, results)]
    lines = [primitive(enlarged(equation, common([equation]))) for equation in equations]
    done = []
    for at in range(width):
        which = first_with(lines, at)
        if which is None:
            continue
        chosen = lines[which]
        others = lines[:which] + lines[which + 1:]
        lines = [cleared(line, chosen, at) for line in others]
        done = [(index, cleared(line, chosen, at)) for index, line in done]
        done.append((at, chosen))
    if first_with(lines, width) is not None:
        return None
    found = {index: ratio(line[width], line[index]) for index, line in done}
    return tuple([found.get(index, NOTHING) for index in range(width)])
