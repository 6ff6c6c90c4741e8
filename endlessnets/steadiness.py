"""Steady books, and what keeps books from being steady: clashes, dead ends and twins."""

from endlessnets.classes import check_whole
from endlessnets.errors import Unsteady
from endlessnets.points import part, point_minus, whole
from endlessnets.resting import positions
from endlessnets.vectors import vector_minus, zero


def clash_among(points):
    """The clash of a book with these points in the rest, None if it is steady."""
    parts = {name: part(points[name]) for name in points}
    for one in points:
        for other in points:
            if one < other and parts[one] == parts[other]:
                vector = whole(point_minus(points[one], points[other]))
                return ((one, zero(len(vector))), (other, vector))
    return None


def check_points(points):
    """Raises the error for a book with these points in the rest that is not steady."""
    found = clash_among(points)
    if found is not None:
        one, other = found
        raise Unsteady(one, other)


def hanging(book):
    """Pairs of a loose place and the place that it hangs on, in the order in which they are taken away."""
    near = {name: [tie[1] for tie in book.leaving(name)] for name in book.names()}
    found = []
    ends = [name for name in near if len(near[name]) == 1]
    while ends:
        for name in ends:
            host = near[name].pop()
            near[host].remove(name)
            found.append((name, host))
        ends = [name for name in near if len(near[name]) == 1]
    return found


def bundle(book, name):
    """The neighbours of the spots of a place as seen from their first one, and the vector of that one."""
    ways = book.leaving(name)
    first = ways[0][2]
    return (tuple([(tie[1], vector_minus(tie[2], first)) for tie in ways]), first)


def twin_classes(book):
    """The ascending list of the twin classes of a book that is whole."""
    groups = {}
    for name in book.names():
        seen, first = bundle(book, name)
        groups.setdefault(seen, []).append((name, first))
    found = []
    for group in groups.values():
        origin = group[0][1]
        found.append([(name, vector_minus(origin, first)) for name, first in group])
    return sorted([spots for spots in found if len(spots) > 1])


def clash(book):
    """The first two spots with the same resting point, None if the book is steady."""
    check_whole(book)
    return clash_among(positions(book))


def is_steady(book):
    """Whether no two spots have the same resting point."""
    return clash(book) is None


def check_steady(book):
    """Raises the error for a book that is not whole or not steady."""
    check_whole(book)
    check_points(positions(book))


def dead_ends(book):
    """The ascending list of the places with one neighbour."""
    check_whole(book)
    return [name for name in book.names() if book.degree(name) == 1]


def loose(book):
    """The ascending list of the places that go when dead ends are taken away again and again."""
    check_whole(book)
    return sorted([name for name, _ in hanging(book)])


def twins(book):
    """The ascending list of the twin classes."""
    check_whole(book)
    return twin_classes(book)
