"""Colourings of nets in two colours, and the odd routes where there are none."""

from endlessnets.classes import check_whole, path_sum, paths_from, rounds_from
from endlessnets.lattices import hermite_table
from endlessnets.routes import is_route, rounds_for, route_length
from endlessnets.spots import check_spot
from endlessnets.vectors import dot, is_vector, vector_times, zero
from endlessnets.words import is_integer_value


def shift_colours(book, rounds):
    """For each direction, whether a shift by one cell changes the colour, as some closed paths tell it."""
    _, table = hermite_table([path_sum(book, path) for path in rounds], book.directions)
    lengths = [len(path) for path in rounds]
    return tuple([dot(row, lengths) % 2 for row in table])


def odd_round(book, rounds, changes):
    """The first closed path that does not keep the colours, None if there is none."""
    for path in rounds:
        if (dot(changes, path_sum(book, path)) + len(path)) % 2 == 1:
            return path
    return None


def coloured(book):
    """The colouring of a whole book, None if there is none."""
    first = book.names()[0]
    rounds = rounds_from(book, first)
    changes = shift_colours(book, rounds)
    if odd_round(book, rounds, changes) is not None:
        return None
    paths = paths_from(book, first)
    colours = {name: len(paths[name]) + dot(changes, path_sum(book, paths[name])) for name in book.names()}
    return ({name: colours[name] % 2 for name in colours}, changes)


def is_colouring(book, value):
    """Whether any value is the colouring of a whole book."""
    if not isinstance(value, tuple) or len(value) != 2 or not isinstance(value[0], dict):
        return False
    # True and False would equal the numbers of the colouring.
    if not all([is_integer_value(colour) for colour in value[0].values()]) or not is_vector(value[1], book.directions):
        return False
    return value == coloured(book)


def is_odd_route(book, value):
    """Whether any value is a route of odd length from the first spot of the first place to itself."""
    start = (book.names()[0], zero(book.directions))
    return is_route(book, start, start, value) and route_length(value) % 2 == 1


def colouring(book):
    """The colours of the places and the directions in which shifts change colours, None if there are none."""
    check_whole(book)
    return coloured(book)


def odd_route(book):
    """A route of odd length from the first spot of the first place to itself, None if there is a colouring."""
    check_whole(book)
    first = book.names()[0]
    rounds = rounds_from(book, first)
    path = odd_round(book, rounds, shift_colours(book, rounds))
    if path is None:
        return None
    # The rounds that lead back tell the same shifts as the colours above, so their length is of the other parity.
    return [(1, path), *rounds_for(book, first, vector_times(path_sum(book, path), -1))]


def colour_of(book, spot):
    """The colour of a spot in the colouring, None if there is none."""
    check_whole(book)
    check_spot(book, spot)
    told = coloured(book)
    if told is None:
        return None
    colours, changes = told
    return (colours[spot[0]] + dot(changes, spot[1])) % 2
