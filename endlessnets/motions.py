"""Motions: maps of nets that lead shifted copies of places to shifted copies."""

from endlessnets.books import Book
from endlessnets.bounds import MOST_TIMES
from endlessnets.errors import InvalidMatrix, InvalidNumber, InvalidPictures, InvalidVector, Misfit, UnknownSpot
from endlessnets.vectors import determinant, identity, is_turning, is_vector, led, matrix_times, unimodular_inverse
from endlessnets.vectors import vector_minus, vector_plus, vector_times, zero
from endlessnets.words import is_name, is_number


def is_named_vector(value, directions):
    """Whether any value is a pair of a name and a vector."""
    if not isinstance(value, tuple) or len(value) != 2:
        return False
    return is_name(value[0]) and is_vector(value[1], directions)


def checked_pictures(pictures, directions):
    """The pictures of a motion with ascending keys."""
    if not isinstance(pictures, dict) or not pictures:
        raise InvalidPictures("")
    found = {}
    reached = {}
    for name in sorted(pictures):
        spot = pictures[name]
        if not is_name(name) or not is_named_vector(spot, directions) or spot[0] in reached:
            raise InvalidPictures(name)
        found[name] = spot
        reached[spot[0]] = True
    return found


def picture_names(pictures):
    """The ascending list of the names of the spots in pictures."""
    return sorted([spot[0] for spot in pictures.values()])


def staying_pictures(names, directions):
    """The pictures that lead each place with one of these names to itself."""
    return {name: (name, zero(directions)) for name in names}


class Motion:
    """A unimodular matrix, and a picture for each place."""

    def __init__(self, matrix, pictures):
        if not is_turning(matrix):
            raise InvalidMatrix()
        self._matrix = matrix
        self._pictures = checked_pictures(pictures, len(matrix))

    @staticmethod
    def staying(book):
        """The motion that leads each spot of a book to itself."""
        return Motion(identity(book.directions), staying_pictures(book.names(), book.directions))

    @staticmethod
    def shifting(book, vector):
        """The motion that shifts all spots of a book."""
        if not is_vector(vector, book.directions):
            raise InvalidVector(0)
        return Motion(identity(book.directions), {name: (name, vector) for name in book.names()})

    def matrix(self):
        """The matrix of the motion."""
        return self._matrix

    def pictures(self):
        """The pictures of the motion, with ascending keys."""
        return dict(self._pictures)

    @property
    def determinant(self):
        """The determinant of the matrix."""
        return determinant(self._matrix)

    def lead(self, spot):
        """The spot to which a spot is led."""
        if not is_named_vector(spot, len(self._matrix)) or spot[0] not in self._pictures:
            raise UnknownSpot(spot)
        name, vector = self._pictures[spot[0]]
        return (name, vector_plus(vector, led(spot[1], self._matrix)))

    def fits(self, book):
        """Whether the motion fits a book."""
        return len(self._matrix) == book.directions and list(self._pictures) == book.names()

    def carry(self, book):
        """The book into which the motion carries a book."""
        if not self.fits(book):
            raise Misfit()
        places = [(self._pictures[name][0], kind) for name, kind in book.places()]
        return Book(book.directions, places, [self._carried_tie(tie) for tie in book.ties()])

    def __mul__(self, other):
        if len(self._matrix) != len(other._matrix) or picture_names(self._pictures) != list(other._pictures):
            raise Misfit()
        pictures = {name: other.lead(spot) for name, spot in self._pictures.items()}
        return Motion(matrix_times(self._matrix, other._matrix), pictures)

    def __invert__(self):
        matrix = unimodular_inverse(self._matrix)
        pictures = {}
        for name, spot in self._pictures.items():
            pictures[spot[0]] = (name, vector_times(led(spot[1], matrix), -1))
        return Motion(matrix, pictures)

    def repeated(self, times):
        """The motion done so many times, or its inverse below 0."""
        if picture_names(self._pictures) != list(self._pictures):
            raise Misfit()
        if not is_number(times, -MOST_TIMES, MOST_TIMES):
            raise InvalidNumber(times)
        once = self if times >= 0 else ~self
        directions = len(self._matrix)
        result = Motion(identity(directions), staying_pictures(self._pictures, directions))
        for _ in range(abs(times)):
            result = result * once
        return result

    def __eq__(self, other):
        return isinstance(other, Motion) and self._matrix == other._matrix and self._pictures == other._pictures

    def __repr__(self):
        return f"Motion({len(self._matrix)} directions, {len(self._pictures)} places)"

    def _carried_tie(self, tie):
        one = self.lead((tie[0], zero(len(self._matrix))))
        other = self.lead((tie[1], tie[2]))
        return (one[0], other[0], vector_minus(other[1], one[1]))
