"""Plain sums with Python's own fractions, against which the package is tested."""

from fractions import Fraction


def numbers(point):
    """Python's fractions for a point; fails for what is no point in lowest terms."""
    found = tuple(Fraction(*item) for item in point)
    assert isinstance(point, tuple) and point == pairs(found), point
    assert all(type(number) is int for item in point for number in item), point
    return found


def pairs(values):
    return tuple((Fraction(value).numerator, Fraction(value).denominator) for value in values)


def plus(one, other):
    return tuple(left + right for left, right in zip(one, other))


def minus(one, other):
    return tuple(left - right for left, right in zip(one, other))


def times(point, number):
    return tuple(item * number for item in point)


def dot(one, other):
    return sum((left * right for left, right in zip(one, other)), Fraction(0))


def led(point, table):
    return tuple(dot(point, column) for column in zip(*table))


def determinant(rows):
    if not rows:
        return Fraction(1)
    minors = ([row[:at] + row[at + 1:] for row in rows[1:]] for at in range(len(rows)))
    return sum((-1) ** at * number * determinant(minor) for at, (number, minor) in enumerate(zip(rows[0], minors)))


def ways(book):
    """All directed ties."""
    return [tie for name in book.names() for tie in book.leaving(name)]


def steps_of(book, points):
    """The steps of all directed ties, for the points of the places as Python's fractions."""
    return {tie: minus(plus(points[tie[1]], tie[2]), points[tie[0]]) for tie in ways(book)}
