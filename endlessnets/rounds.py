"""Simple rounds, and those of them on which a way far out in one or two directions goes the fastest."""

from math import lcm

from endlessnets.books import turned
from endlessnets.classes import path_sum
from endlessnets.vectors import vector_minus, vector_times


def is_back_and_forth(path):
    """Whether a path is a directed tie and then the same tie back."""
    return len(path) == 2 and path[1] == turned(path[0])


def round_paths(book):
    """The simple rounds, each one told from the least of its places."""
    found = []
    for start in book.names():
        paths = [(tie,) for tie in book.leaving(start)]
        while paths:
            path = paths.pop()
            end = path[-1][1]
            passed = [tie[0] for tie in path]
            if end == start and not is_back_and_forth(path):
                found.append(path)
            # A round is told from its least place alone, so no path goes on from a lesser one.
            if end > start and end not in passed:
                paths.extend([(*path, tie) for tie in book.leaving(end)])
    return found


def rounds_by_sum(book):
    """A simple round for each pair (sum, length) that simple rounds have."""
    return {(path_sum(book, path), len(path)): path for path in round_paths(book)}


def cross(one, other):
    """The determinant of two vectors in two directions."""
    return one[0] * other[1] - one[1] * other[0]


def half_hull(points):
    """The corners on one side of the hull of points in order, without the last one."""
    found = []
    for point in points:
        while len(found) > 1 and cross(vector_minus(found[-1], found[-2]), vector_minus(point, found[-1])) <= 0:
            found.pop()
        found.append(point)
    return found[:-1]


def corners_around(points, vector):
    """The neighbouring corners of the hull of points around zero between which a vector points."""
    corners = [*half_hull(points), *half_hull(points[::-1])]
    sides = [(one, other) for one, other in zip(corners, [*corners[1:], corners[0]])
             if cross(one, vector) >= 0 and cross(vector, other) >= 0]
    return list(sides[0])


def rounds_towards(pairs, vector):
    """As many pairs (sum, length) as directions, whose rounds lead the fastest to a vector."""
    scale = 1
    for _, length in pairs:
        scale = lcm(scale, length)
    # A round of the length n gets as far in each join as the n-th part of its sum says.
    reached = {vector_times(ends, scale // length): (ends, length) for ends, length in pairs}
    points = sorted(reached)
    if len(vector) == 1:
        chosen = [points[-1] if vector[0] > 0 else points[0]]
    else:
        chosen = corners_around(points, vector)
    return [reached[point] for point in chosen]
