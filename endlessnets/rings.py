"""Rings: closed walks that visit no spot twice, and the shortest ones through a join."""

from endlessnets.errors import InvalidNumber, UnknownTie
from endlessnets.spots import next_shell, spots_around
from endlessnets.vectors import zero
from endlessnets.words import is_number

LEAST_RING = 3
MOST_RING = 16


def check_most(most):
    """Raises the error for any value that is no right bound of rings."""
    if not is_number(most, LEAST_RING, MOST_RING):
        raise InvalidNumber(most)


def beside(book, spot, other):
    """The neighbours of a spot but for one of them."""
    return [near for near in spots_around(book, spot) if near != other]


def ring_through(book, tie, most):
    """The ring number of a tie, None if it is above most or there is no ring."""
    one = (tie[0], zero(book.directions))
    other = (tie[1], tie[2])
    # A ring consists of the join and of a walk between its ends that does not go along it.
    ahead, shell = [one], beside(book, one, other)
    opposite_ahead, opposite = [other], beside(book, other, one)
    joins = LEAST_RING
    while len(set(shell) & set(opposite)) == 0:
        if joins == most or not shell or not opposite:
            return None
        if len(shell) <= len(opposite):
            ahead, shell = shell, next_shell(book, shell, ahead)
        else:
            opposite_ahead, opposite = opposite, next_shell(book, opposite, opposite_ahead)
        joins = joins + 1
    return joins


def ring_number(book, tie, *, most=8):
    """The least number of joins of a ring with a join of a tie, None if it is above most or there is no ring."""
    if not book.has_tie(tie):
        raise UnknownTie(tie)
    check_most(most)
    return ring_through(book, tie, most)


def ring_numbers(book, *, most=8):
    """The ring numbers of all ties by their standard forms, ascending."""
    check_most(most)
    return {tie: ring_through(book, tie, most) for tie in book.ties()}
