"""Coarse books: a net told with the shifts of a lattice alone."""

from endlessnets.books import Book
from endlessnets.bounds import MOST_PLACES, MOST_TIES
from endlessnets.errors import InvalidLattice, InvalidVector, TooMany
from endlessnets.lattices import Lattice
from endlessnets.motions import Motion
from endlessnets.spots import check_spot
from endlessnets.vectors import identity, is_vector, led, vector_minus, vector_plus
from endlessnets.words import list_name


def check_coarse(book, lattice):
    """Raises the error for what gives no coarse book."""
    if not isinstance(lattice, Lattice) or lattice.directions != book.directions or lattice.cells is None:
        raise InvalidLattice()
    if len(book) * lattice.cells > MOST_PLACES:
        raise TooMany(MOST_PLACES)
    if len(book.ties()) * lattice.cells > MOST_TIES:
        raise TooMany(MOST_TIES)


class CoarseBook:
    """The book of a net for a lattice, and the way from the old book to it and back."""

    def __init__(self, book, lattice):
        check_coarse(book, lattice)
        self.outer = book
        self.lattice = lattice
        self._remainders = lattice.remainders()
        pairs = [(name, remainder) for name in book.names() for remainder in self._remainders]
        self._origins = {list_name(at): pair for at, pair in enumerate(pairs)}
        self._told = {pair: list_name(at) for at, pair in enumerate(pairs)}
        places = [(name, book.kind(origin[0])) for name, origin in self._origins.items()]
        ties = [self._coarse_tie(tie, remainder) for tie in book.ties() for remainder in self._remainders]
        self.book = Book(book.directions, places, ties)

    def to_coarse(self, spot):
        """The spot of the coarse book for a spot of the outer book."""
        check_spot(self.outer, spot)
        return self._coarse_spot(spot)

    def to_outer(self, spot):
        """The spot of the outer book for a spot of the coarse book."""
        check_spot(self.book, spot)
        name, remainder = self._origins[spot[0]]
        return (name, vector_plus(remainder, led(spot[1], self.lattice.basis())))

    def coarse_motion(self, vector):
        """The motion of the coarse book that shifts the net by a vector of the outer book."""
        if not is_vector(vector, self.outer.directions):
            raise InvalidVector(0)
        pictures = {}
        for name, origin in self._origins.items():
            pictures[name] = self._coarse_spot((origin[0], vector_plus(origin[1], vector)))
        return Motion(identity(self.outer.directions), pictures)

    def __len__(self):
        return len(self._remainders)

    def __repr__(self):
        return f"CoarseBook({len(self.book)} of {len(self.outer)} places)"

    def _coarse_spot(self, spot):
        name, vector = spot
        remainder = self.lattice.remainder(vector)
        return (self._told[(name, remainder)], self.lattice.numbers(vector_minus(vector, remainder)))

    def _coarse_tie(self, tie, remainder):
        one = self._coarse_spot((tie[0], remainder))
        other = self._coarse_spot((tie[1], vector_plus(remainder, tie[2])))
        return (one[0], other[0], vector_minus(other[1], one[1]))
