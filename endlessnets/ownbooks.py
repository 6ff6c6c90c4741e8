"""Own books: one piece of a net, told alone, with as many directions as it repeats itself in."""

from endlessnets.books import Book
from endlessnets.classes import path_sum, paths_from, rounds_lattice
from endlessnets.errors import Finite
from endlessnets.spots import check_spot
from endlessnets.vectors import led, vector_minus, vector_plus


class OwnBook:
    """The book of the piece of one spot, and the way from its net to the net of the outer book and back."""

    def __init__(self, book, name):
        rounds = rounds_lattice(book, name)
        if rounds.rank == 0:
            raise Finite(name)
        paths = paths_from(book, name)
        self.outer = book
        self.name = name
        self._rounds = rounds
        self._offsets = {place: rounds.remainder(path_sum(book, paths[place])) for place in paths}
        places = [(place, book.kind(place)) for place in self._offsets]
        ties = [self._own_tie(tie) for tie in book.ties() if tie[0] in self._offsets]
        self.book = Book(rounds.rank, places, ties)

    def to_own(self, spot):
        """The spot of the own book for a spot of the piece, None for a spot of another piece."""
        check_spot(self.outer, spot)
        name, vector = spot
        if name not in self._offsets:
            return None
        numbers = self._rounds.numbers(vector_minus(vector, self._offsets[name]))
        return None if numbers is None else (name, numbers)

    def to_outer(self, spot):
        """The spot of the outer book for a spot of the own book."""
        check_spot(self.book, spot)
        name, numbers = spot
        return (name, vector_plus(self._offsets[name], led(numbers, self._rounds.basis())))

    def __len__(self):
        return len(self._offsets)

    def __repr__(self):
        return f"OwnBook({len(self._offsets)} places, rank {self._rounds.rank})"

    def _own_tie(self, tie):
        one, other, vector = tie
        reached = vector_plus(self._offsets[one], vector)
        return (one, other, self._rounds.numbers(vector_minus(reached, self._offsets[other])))
