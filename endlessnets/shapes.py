"""The shape of a net: what squares and products the steps of its rest give."""

from endlessnets.classes import check_whole
from endlessnets.errors import InvalidVector
from endlessnets.points import carried, is_point, point_dot, point_of, point_plus, point_times, table_inverse
from endlessnets.ratios import NOTHING, is_less
from endlessnets.resting import positions, step_between
from endlessnets.vectors import zero


def pull_among(book, points):
    """The sum over the ties of the tables of the products of the numbers of their steps."""
    nothing = point_of(zero(book.directions))
    rows = [nothing for _ in nothing]
    for tie in book.ties():
        pulled = step_between(points, tie)
        rows = [point_plus(row, point_times(pulled, number)) for row, number in zip(rows, pulled)]
    return tuple(rows)


def shape_among(book, points):
    """The inverse of the sum of the pulls."""
    return table_inverse(pull_among(book, points))


def product_in(table, one, other):
    """The product of two points with a shape."""
    return point_dot(carried(one, table), other)


def squares_among(book, points):
    """The squares of the ties by their standard forms, ascending."""
    table = shape_among(book, points)
    steps = {tie: step_between(points, tie) for tie in book.ties()}
    return {tie: product_in(table, steps[tie], steps[tie]) for tie in steps}


def pull_table(book):
    """The pull table of a whole book."""
    check_whole(book)
    return pull_among(book, positions(book))


def shape(book):
    """The inverse of the pull table."""
    check_whole(book)
    return shape_among(book, positions(book))


def product(book, one, other):
    """The product of two points in the shape of a book."""
    check_whole(book)
    for at, point in enumerate((one, other)):
        if not is_point(point, book.directions):
            raise InvalidVector(at)
    return product_in(shape_among(book, positions(book)), one, other)


def square(book, point):
    """The product of a point with itself."""
    return product(book, point, point)


def tie_squares(book):
    """The squares of the ties by their standard forms, ascending."""
    check_whole(book)
    return squares_among(book, positions(book))


def longest(book):
    """The ascending list of the ties with the greatest square."""
    squares = tie_squares(book)
    greatest = NOTHING
    for found in squares.values():
        if is_less(greatest, found):
            greatest = found
    return [tie for tie in squares if squares[tie] == greatest]
