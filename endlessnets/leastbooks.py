"""Hidden shifts, and least books, which have none."""

from endlessnets.books import Book, standard
from endlessnets.errors import NotLeast
from endlessnets.laidbooks import LaidBook
from endlessnets.lattices import hermite
from endlessnets.points import carried, common, enlarged, part, point_minus, point_of, point_plus, point_times
from endlessnets.points import table_inverse, table_of, whole
from endlessnets.ratios import ratio
from endlessnets.spots import check_spot
from endlessnets.trials import break_of
from endlessnets.vectors import identity, vector_minus, zero


def candidates_of(laid):
    """For all places but the first one, the part of the point to which it would be moved, and the break of this."""
    table = table_of(identity(laid.book.directions))
    shifts = [(name, part(laid.points[name])) for name in laid.book.names()[1:]]
    return [(name, shift, break_of(laid, laid, table, shift)) for name, shift in shifts]


def shifts_of(laid):
    """The ascending list of the hidden shifts of a laid book."""
    return sorted([shift for _, shift, stop in candidates_of(laid) if stop is None])


def check_shifts(laid):
    """Raises the error for a laid book that is not least."""
    shifts = shifts_of(laid)
    if shifts:
        raise NotLeast(shifts[0])


def basis_of_points(points):
    """The basis of the lattice of a list of points, as a table."""
    scale = common(points)
    rows = hermite([enlarged(point, scale) for point in points], len(points[0]))
    return tuple([point_times(point_of(row), ratio(1, scale)) for row in rows])


def hidden_shifts(book):
    """The ascending list of the hidden shifts of a steady book."""
    return shifts_of(LaidBook(book))


def candidates(book):
    """The triples of name, point and break that tell for each place but the first one why it is no hidden shift."""
    return candidates_of(LaidBook(book))


def is_least(book):
    """Whether a steady book has no hidden shift."""
    return not hidden_shifts(book)


def check_least(book):
    """Raises the error for a book that is not whole, not steady or not least."""
    check_shifts(LaidBook(book))


class LeastBook:
    """The book of a net in its fine lattice, and the way from the old book to it and back."""

    def __init__(self, book):
        laid = LaidBook(book)
        shifts = shifts_of(laid)
        self.outer = book
        self._laid = laid
        self._parts = [point_of(zero(book.directions)), *shifts]
        self.factor = len(self._parts)
        self._basis = basis_of_points([*table_of(identity(book.directions)), *shifts])
        self._inverse = table_inverse(self._basis)
        self._firsts = self._first_places()
        places = [(name, kind) for name, kind in book.places() if self._firsts[name] == name]
        ties = {standard(self._least_tie(tie)): True for tie in book.ties()}
        self.book = Book(book.directions, places, list(ties))

    def basis(self):
        """The basis of the fine lattice, as a table."""
        return self._basis

    def to_least(self, spot):
        """The spot of the least book for a spot of the outer book."""
        check_spot(self.outer, spot)
        return self._fine_spot(spot)

    def to_outer(self, spot):
        """The spot of the outer book for a spot of the least book."""
        check_spot(self.book, spot)
        name, numbers = spot
        return self._laid.spot_on(point_plus(self._laid.points[name], carried(point_of(numbers), self._basis)))

    def __len__(self):
        return len(self._parts)

    def __repr__(self):
        return f"LeastBook({len(self.book)} of {len(self.outer)} places)"

    def _first_places(self):
        found = {}
        for name in self.outer.names():
            if name not in found:
                for shift in self._parts:
                    moved = self._laid.spot_on(point_plus(self._laid.points[name], shift))
                    found[moved[0]] = name
        return found

    def _fine_spot(self, spot):
        first = self._firsts[spot[0]]
        moved = point_minus(self._laid.point_of_spot(spot), self._laid.points[first])
        return (first, whole(carried(moved, self._inverse)))

    def _least_tie(self, tie):
        one = self._fine_spot((tie[0], zero(len(tie[2]))))
        other = self._fine_spot((tie[1], tie[2]))
        return (one[0], other[0], vector_minus(other[1], one[1]))
