"""Routes: walks of any length, told by how often paths are gone."""

from endlessnets.classes import is_path, path_between, path_sum, rounds_from, turned_path
from endlessnets.lattices import Lattice, hermite_table
from endlessnets.spots import check_spot
from endlessnets.vectors import vector_minus, vector_plus, vector_times, zero
from endlessnets.words import is_integer_value


def rounds_for(book, name, vector):
    """A route of closed paths from a place to itself with a vector as its sum, None if there is none."""
    rounds = rounds_from(book, name)
    basis, table = hermite_table([path_sum(book, path) for path in rounds], book.directions)
    numbers = Lattice(book.directions, basis).numbers(vector)
    if numbers is None:
        return None
    counts = zero(len(rounds))
    for number, row in zip(numbers, table):
        counts = vector_plus(counts, vector_times(row, number))
    told = [(count, path) for count, path in zip(counts, rounds) if count != 0]
    return [(count, path) if count > 0 else (-count, turned_path(path)) for count, path in told]


def route(book, one, other):
    """A route from a spot to another one, None if they do not hang together."""
    check_spot(book, one)
    check_spot(book, other)
    path = path_between(book, one[0], other[0])
    if path is None:
        return None
    rest = vector_minus(vector_minus(other[1], one[1]), path_sum(book, path))
    rounds = rounds_for(book, one[0], rest)
    if rounds is None or not path:
        return rounds
    return [*rounds, (1, path)]


def is_part(book, value):
    """Whether any value can be a part of a route."""
    if not isinstance(value, tuple) or len(value) != 2:
        return False
    count, path = value
    if not is_integer_value(count) or count < 1 or not is_path(book, path):
        return False
    return count == 1 or path[0][0] == path[-1][1]


def is_route(book, one, other, value):
    """Whether any value is a list or a tuple that is a route from one spot to another one."""
    check_spot(book, one)
    check_spot(book, other)
    if not isinstance(value, (list, tuple)):
        return False
    name, vector = one
    for part in value:
        if not is_part(book, part):
            return False
        count, path = part
        if path[0][0] != name:
            return False
        name = path[-1][1]
        vector = vector_plus(vector, vector_times(path_sum(book, path), count))
    return (name, vector) == other


def route_length(route):
    """The number of joins of the walk that a route tells."""
    return sum([count * len(path) for count, path in route])


def backwards(route):
    """The route from the end of a route to its beginning."""
    return [(count, turned_path(path)) for count, path in reversed(route)]
