"""Turns: the samenesses of a net with itself, and what they lead into one another."""

from endlessnets.books import standard
from endlessnets.classes import check_name
from endlessnets.errors import Misfit
from endlessnets.motions import Motion
from endlessnets.points import point_of, point_times, solved
from endlessnets.ratios import ratio
from endlessnets.resting import resting_point
from endlessnets.samenesses import is_sameness, motions
from endlessnets.vectors import identity, vector_minus, vector_times, zero


def check_own(book, motion):
    """Raises the error for any value that is no sameness of the net of a book with itself."""
    if not is_sameness(book, book, motion):
        raise Misfit()


def picture_of(book, name, motion):
    """The spot to which a motion leads the first spot of a place."""
    return motion.lead((name, zero(book.directions)))


def drawn_back(book, name, motion):
    """A motion and then the shift behind which the first spot of a place has the zero vector."""
    return motion * Motion.shifting(book, vector_times(picture_of(book, name, motion)[1], -1))


def led_tie(motion, tie):
    """The tie, in standard form, to which a motion leads a tie."""
    one = motion.lead((tie[0], zero(len(tie[2]))))
    other = motion.lead((tie[1], tie[2]))
    return standard((one[0], other[0], vector_minus(other[1], one[1])))


def gathered(reached):
    """The ascending list of the orbits, for each item what it is led to by all turns."""
    orbits = {}
    for item in reached:
        orbit = sorted(set(reached[item]))
        orbits[orbit[0]] = orbit
    return [orbits[first] for first in sorted(orbits)]


def turns(book):
    """The turns of a least steady book, in the ascending order of their matrices."""
    return motions(book, book)


def standard_motion(book, motion):
    """The standard sameness with the matrix of a sameness of the net with itself."""
    check_own(book, motion)
    return drawn_back(book, book.names()[0], motion)


def mirrors(book):
    """The turns with the determinant -1."""
    return [turn for turn in turns(book) if turn.determinant == -1]


def is_handed(book):
    """Whether a net has no mirrors."""
    return not mirrors(book)


def place_orbits(book):
    """The ascending list of the lists of places that are alike."""
    found = turns(book)
    return gathered({name: [picture_of(book, name, turn)[0] for turn in found] for name in book.names()})


def tie_orbits(book):
    """The ascending list of the lists of ties that are alike."""
    found = turns(book)
    return gathered({tie: [led_tie(turn, tie) for turn in found] for tie in book.ties()})


def holders(book, name):
    """The motions that lead the first spot of a place onto itself and the net onto itself."""
    found = turns(book)
    check_name(book, name)
    return [drawn_back(book, name, turn) for turn in found if picture_of(book, name, turn)[0] == name]


def offset_point(book, motion):
    """The point by which a sameness of a net with itself moves resting points behind its matrix."""
    check_own(book, motion)
    # The first place rests at the zero point, so its matrix moves it nowhere.
    return resting_point(book, picture_of(book, book.names()[0], motion))


def still_point(book, motion):
    """A point that a sameness of a net with itself leaves where it is, None if there is none."""
    offset = offset_point(book, motion)
    rows = [vector_minus(row, one) for row, one in zip(motion.matrix(), identity(book.directions))]
    return solved([point_of(column) for column in zip(*rows)], list(point_times(offset, ratio(-1))))
