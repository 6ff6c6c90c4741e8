"""New nets out of old ones: crossed, split and clothed books."""

from endlessnets.books import Book, turned
from endlessnets.bounds import MOST_DIRECTIONS, MOST_PLACES, MOST_TIES
from endlessnets.errors import Finite, InvalidDirections, TooMany
from endlessnets.kinds import check_size
from endlessnets.vectors import zero
from endlessnets.words import list_name


def check_numbers(places, ties):
    """Raises the error for so many places and ties, if no book has them."""
    if places > MOST_PLACES:
        raise TooMany(MOST_PLACES)
    if ties > MOST_TIES:
        raise TooMany(MOST_TIES)


def list_names(items):
    """The list names of items in order."""
    return {item: list_name(at) for at, item in enumerate(items)}


def crossed_places(one, other, names):
    """The places of the crossed book, for the names of the pairs."""
    places = []
    for pair, name in names.items():
        kind = f"[{one.kind(pair[0])},{other.kind(pair[1])}]"
        check_size(kind)
        places.append((name, kind))
    return places


def crossed(one, other):
    """The book of the pairs of spots of two nets, joined as one half is where the other halves agree."""
    directions = one.directions + other.directions
    if directions > MOST_DIRECTIONS:
        raise InvalidDirections(directions)
    check_numbers(len(one) * len(other), len(one) * len(other.ties()) + len(other) * len(one.ties()))
    names = list_names([(left, right) for left in one.names() for right in other.names()])
    places = crossed_places(one, other, names)
    ties = []
    for left, right, vector in one.ties():
        ahead = (*vector, *zero(other.directions))
        ties.extend([(names[(left, name)], names[(right, name)], ahead) for name in other.names()])
    for left, right, vector in other.ties():
        behind = (*zero(one.directions), *vector)
        ties.extend([(names[(name, left)], names[(name, right)], behind) for name in one.names()])
    return Book(directions, places, ties)


def split(book):
    """The book with a new place in the middle of each tie."""
    check_numbers(len(book) + len(book.ties()), 2 * len(book.ties()))
    names = list_names(book.names())
    middles = {tie: list_name(len(book) + at) for at, tie in enumerate(book.ties())}
    places = [(names[name], kind) for name, kind in book.places()]
    places.extend([(middle, "mid") for middle in middles.values()])
    ties = []
    for tie, middle in middles.items():
        one, other, vector = tie
        ties.append((names[one], middle, zero(book.directions)))
        ties.append((middle, names[other], vector))
    return Book(book.directions, places, ties)


def clothed(book):
    """The book of the spots with one of their neighbours each."""
    for name in book.names():
        if book.degree(name) == 0:
            raise Finite(name)
    degrees = [book.degree(name) for name in book.names()]
    check_numbers(sum(degrees), len(book.ties()) + sum([many * (many - 1) // 2 for many in degrees]))
    names = list_names([tie for name in book.names() for tie in book.leaving(name)])
    places = [(told, book.kind(tie[0])) for tie, told in names.items()]
    ties = [(names[tie], names[turned(tie)], tie[2]) for tie in book.ties()]
    for name in book.names():
        beside = [names[tie] for tie in book.leaving(name)]
        for at, one in enumerate(beside):
            ties.extend([(one, other, zero(book.directions)) for other in beside[at + 1:]])
    return Book(book.directions, places, ties)
