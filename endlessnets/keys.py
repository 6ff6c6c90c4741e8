"""Portraits of least books in the coordinates of their frames, and the keys by which nets are known again."""

from endlessnets.classes import check_name
from endlessnets.errors import Misfit
from endlessnets.frames import is_frame, least_among
from endlessnets.laidbooks import LaidBook
from endlessnets.leastbooks import LeastBook, basis_of_points, check_shifts
from endlessnets.points import carried, point_minus, point_times, table_inverse
from endlessnets.ratios import divided, floor_of, ratio
from endlessnets.resting import positions, step_between
from endlessnets.settling import settled


def remainder_among(point, basis):
    """A point less the rows of a basis, so that it has numbers from 0 to below each pivot."""
    present = point
    for at, row in enumerate(basis):
        many = floor_of(divided(present[at], row[at]))
        present = point_minus(present, point_times(row, ratio(many)))
    return present


class View:
    """A least book in the coordinates of a frame."""

    def __init__(self, book, points, frame):
        self._book = book
        self._points = points
        self._back = table_inverse(frame)
        self._shown = {name: carried(points[name], self._back) for name in points}
        self._known = {}
        self.rows = basis_of_points(list(self._back))

    def look(self, name):
        """The kind of a place, and the coordinates of the steps that lead from it."""
        if name not in self._known:
            steps = [step_between(self._points, tie) for tie in self._book.leaving(name)]
            shown = sorted([carried(step, self._back) for step in steps])
            self._known[name] = (self._book.kind(name), tuple(shown))
        return self._known[name]

    def told_from(self, origin):
        """The portrait of the book in a place and the frame."""
        start = self._shown[origin]
        looks = []
        for name in self._shown:
            kind, steps = self.look(name)
            looks.append((remainder_among(point_minus(self._shown[name], start), self.rows), kind, steps))
        return (self.rows, tuple(sorted(looks)))


def least_portrait(book):
    """The least portrait of a steady least book."""
    points = positions(book)
    views = [View(book, points, frame) for frame in least_among(book, points)]
    rows = min([view.rows for view in views])
    kind = min([kind for _, kind in book.places()])
    names = [name for name in book.names() if book.kind(name) == kind]
    pairs = [(view, name) for view in views if view.rows == rows for name in names]
    # The origin itself has the least point, so its look is compared ahead of all others, which take longer.
    first = min([view.look(name) for view, name in pairs])
    return min([view.told_from(name) for view, name in pairs if view.look(name) == first])


def portrait(book, name, frame):
    """The portrait of a least steady book in a place and a least frame."""
    laid = LaidBook(book)
    check_shifts(laid)
    check_name(book, name)
    if not is_frame(book, frame) or frame not in least_among(book, laid.points):
        raise Misfit()
    return View(book, laid.points, frame).told_from(name)


def key(book):
    """The key of a steady book, which it has in common with just the steady books of the same net."""
    return least_portrait(LeastBook(book).book)


def settled_key(book):
    """The key of the settled book."""
    return key(settled(book))
