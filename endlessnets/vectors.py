"""Vectors and matrices with numbers."""

from endlessnets.bounds import MOST_DIRECTIONS, MOST_TIMES
from endlessnets.errors import InvalidMatrix, InvalidNumber
from endlessnets.words import is_integer_value, is_number

MOST_ORDER = 6


def is_vector(value, directions):
    """Whether any value is a vector with so many numbers."""
    if not isinstance(value, tuple) or len(value) != directions:
        return False
    return all([is_integer_value(number) for number in value])


def is_matrix(value, directions):
    """Whether any value is a matrix with so many rows."""
    if not isinstance(value, tuple) or len(value) != directions:
        return False
    return all([is_vector(row, directions) for row in value])


def zero(directions):
    """The vector of zeros."""
    return (0,) * directions


def unit(directions, at):
    """The vector with 1 at an index and 0 elsewhere."""
    return tuple([1 if index == at else 0 for index in range(directions)])


def identity(directions):
    """The matrix that changes no vector."""
    return tuple([unit(directions, at) for at in range(directions)])


def vector_plus(one, other):
    """The sum of two vectors."""
    return tuple([left + right for left, right in zip(one, other)])


def vector_minus(one, other):
    """The difference one - other of two vectors."""
    return tuple([left - right for left, right in zip(one, other)])


def vector_times(vector, number):
    """A vector times a number."""
    return tuple([item * number for item in vector])


def dot(one, other):
    """The sum of the products of the items."""
    return sum([left * right for left, right in zip(one, other)])


def led(vector, matrix):
    """The product of a vector and a matrix."""
    return tuple([dot(vector, column) for column in zip(*matrix)])


def matrix_times(one, other):
    """The product of two matrices: first one, then other."""
    return tuple([led(row, other) for row in one])


def minor(matrix, row, column):
    """The determinant of a matrix without a row and a column."""
    kept = [numbers for at, numbers in enumerate(matrix) if at != row]
    return determinant(tuple([numbers[:column] + numbers[column + 1:] for numbers in kept]))


def signed_minor(matrix, row, column):
    """The minor with the sign of its position."""
    found = minor(matrix, row, column)
    return found if (row + column) % 2 == 0 else -found


def determinant(matrix):
    """The determinant of a matrix; 1 for the one without rows."""
    if not matrix:
        return 1
    return sum([number * signed_minor(matrix, 0, at) for at, number in enumerate(matrix[0])])


def adjugate(matrix):
    """The matrix whose product with a matrix is its determinant times the identity."""
    size = len(matrix)
    return tuple([tuple([signed_minor(matrix, row, column) for row in range(size)]) for column in range(size)])


def is_unimodular(value, directions):
    """Whether any value is a unimodular matrix with so many rows."""
    return is_matrix(value, directions) and determinant(value) in (1, -1)


def is_turning(value):
    """Whether any value is a unimodular matrix with 1 to 3 rows."""
    return isinstance(value, tuple) and 1 <= len(value) <= MOST_DIRECTIONS and is_unimodular(value, len(value))


def unimodular_inverse(matrix):
    """The inverse of a unimodular matrix."""
    if not is_turning(matrix):
        raise InvalidMatrix()
    kept = determinant(matrix)
    return tuple([vector_times(row, kept) for row in adjugate(matrix)])


def power(matrix, times):
    """The product of so many unimodular matrices, or of their inverses below 0."""
    if not is_turning(matrix):
        raise InvalidMatrix()
    if not is_number(times, -MOST_TIMES, MOST_TIMES):
        raise InvalidNumber(times)
    factor = matrix if times >= 0 else unimodular_inverse(matrix)
    result = identity(len(matrix))
    for _ in range(abs(times)):
        result = matrix_times(result, factor)
    return result


def order_of(matrix):
    """The least number of matrices whose product is the identity, None if it is above 6."""
    if not is_turning(matrix):
        raise InvalidMatrix()
    result = identity(len(matrix))
    for order in range(1, MOST_ORDER + 1):
        result = matrix_times(result, matrix)
        if result == identity(len(matrix)):
            return order
    return None
