"""Steady books, laid at their resting points: where a spot rests, and which spot rests at a point."""

from endlessnets.books import standard
from endlessnets.classes import check_whole
from endlessnets.points import part, point_minus, whole
from endlessnets.resting import positions, spot_point
from endlessnets.steadiness import check_points
from endlessnets.vectors import vector_minus


class LaidBook:
    """A steady book with its rest."""

    def __init__(self, book):
        check_whole(book)
        points = positions(book)
        check_points(points)
        self.book = book
        self.points = points
        self._names = {part(points[name]): name for name in points}
        self._told = {tie: True for tie in book.ties()}

    def point_of_spot(self, spot):
        """The resting point of a spot."""
        return spot_point(self.points, spot)

    def spot_on(self, point):
        """The spot that rests at a point, None if there is none."""
        name = self._names.get(part(point))
        if name is None:
            return None
        return (name, whole(point_minus(point, self.points[name])))

    def joins(self, one, other):
        """Whether two spots are joined."""
        return standard((one[0], other[0], vector_minus(other[1], one[1]))) in self._told
