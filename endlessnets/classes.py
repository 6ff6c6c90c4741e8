"""Classes, paths and marks: which spots of a net hang together."""

from endlessnets.books import turned
from endlessnets.errors import Falls, UnknownName
from endlessnets.lattices import Lattice
from endlessnets.spots import check_spot
from endlessnets.vectors import vector_minus, vector_plus, zero


def check_name(book, name):
    """Raises the error for a value that is no name of a place."""
    if name not in book:
        raise UnknownName(name)


def paths_from(book, name):
    """A path to each place of the class of a place, by the names."""
    paths = {name: ()}
    edge = [name]
    while edge:
        after = []
        for place in edge:
            for tie in book.leaving(place):
                if tie[1] not in paths:
                    paths[tie[1]] = (*paths[place], tie)
                    after.append(tie[1])
        edge = after
    return paths


def classes(book):
    """The ascending list of the classes, each an ascending list of names."""
    found = []
    seen = {}
    for name in book.names():
        if name not in seen:
            members = sorted(paths_from(book, name))
            found.append(members)
            for member in members:
                seen[member] = True
    return found


def path_between(book, one, other):
    """A path from a place to another one, None if there is none."""
    check_name(book, one)
    check_name(book, other)
    return paths_from(book, one).get(other)


def path_sum(book, path):
    """The sum of the vectors of a path."""
    result = zero(book.directions)
    for tie in path:
        result = vector_plus(result, tie[2])
    return result


def is_path(book, value):
    """Whether any value is a path of the book that is not empty."""
    if not isinstance(value, tuple) or not value:
        return False
    for tie in value:
        if not book.has_tie(tie):
            return False
    return all([tie[1] == after[0] for tie, after in zip(value, value[1:])])


def turned_path(path):
    """A path, led backwards."""
    return tuple([turned(tie) for tie in reversed(path)])


def rounds_from(book, name):
    """Closed paths from a place, one for each tie of its class, whose sums give the rounds lattice."""
    paths = paths_from(book, name)
    ties = [tie for tie in book.ties() if tie[0] in paths]
    return [(*paths[tie[0]], tie, *turned_path(paths[tie[1]])) for tie in ties]


def rounds_lattice(book, name):
    """The lattice of the sums of all closed paths in the class of a place."""
    check_name(book, name)
    paths = paths_from(book, name)
    sums = {place: path_sum(book, paths[place]) for place in paths}
    ties = [tie for tie in book.ties() if tie[0] in sums]
    rounds = [vector_minus(vector_plus(sums[one], vector), sums[other]) for one, other, vector in ties]
    return Lattice(book.directions, rounds)


def place_offset(book, one, other):
    """The offset of other from one, None if they are in different classes."""
    path = path_between(book, one, other)
    if path is None:
        return None
    return rounds_lattice(book, one).remainder(path_sum(book, path))


def mark(book, spot):
    """What a spot has in common with just the spots that hang together with it."""
    check_spot(book, spot)
    name, vector = spot
    least = min(list(paths_from(book, name)))
    offset = place_offset(book, least, name)
    return (least, rounds_lattice(book, least).remainder(vector_minus(vector, offset)))


def hang_together(book, one, other):
    """Whether a walk leads from one spot to another one."""
    check_spot(book, one)
    check_spot(book, other)
    return mark(book, one) == mark(book, other)


def pieces(book):
    """The number of pieces of the net, None if it is endless."""
    counts = [rounds_lattice(book, members[0]).cells for members in classes(book)]
    return None if None in counts else sum(counts)


def is_whole(book):
    """Whether the net of a book is one piece."""
    return pieces(book) == 1


def check_whole(book):
    """Raises the error for a book that is not whole."""
    many = pieces(book)
    if many != 1:
        raise Falls(many)
