"""Trials: whether a movement of resting points leads one net onto another one, and where it breaks."""

from endlessnets.errors import InvalidMatrix, InvalidVector, Misfit
from endlessnets.laidbooks import LaidBook
from endlessnets.points import carried, is_point, point_plus, whole_matrix
from endlessnets.spots import shifted
from endlessnets.vectors import is_turning, led


def is_table(value, directions):
    """Whether any value is a table with so many rows."""
    if not isinstance(value, tuple) or len(value) != directions:
        return False
    return all([is_point(row, directions) for row in value])


def check_movement(one, other, table, point):
    """Raises the error for what cannot be tried from one book to another one."""
    if one.directions != other.directions:
        raise Misfit()
    if not is_table(table, one.directions):
        raise InvalidMatrix()
    if not is_point(point, one.directions):
        raise InvalidVector(0)


def picture_in(one, other, name, table, point):
    """The picture of the first spot of a place from one laid book in another one, None if there is no such spot."""
    return other.spot_on(point_plus(carried(one.points[name], table), point))


def break_of(one, other, table, point):
    """The break of a trial from one laid book to another one, None if there is none."""
    matrix = whole_matrix(table)
    if not is_turning(matrix):
        return ("table",)
    found = {}
    for name in one.points:
        spot = picture_in(one, other, name, table, point)
        if spot is None:
            return ("place", name)
        if one.book.kind(name) != other.book.kind(spot[0]):
            return ("kind", name)
        found[name] = spot
    for tie in one.book.ties():
        if not other.joins(found[tie[0]], shifted(found[tie[1]], led(tie[2], matrix))):
            return ("tie", tie)
    return None


def trial(one, other, table, point):
    """The break of the trial of a table and a point, None if there is none."""
    left = LaidBook(one)
    right = LaidBook(other)
    check_movement(one, other, table, point)
    return break_of(left, right, table, point)


def pictures(one, other, table, point):
    """The pictures of the first spots of the places, None in the place of what is no spot."""
    left = LaidBook(one)
    right = LaidBook(other)
    check_movement(one, other, table, point)
    return {name: picture_in(left, right, name, table, point) for name in left.points}
