"""Papers: what is said of the nets of a bench, and whether it is right."""

from endlessnets.classes import is_whole
from endlessnets.colours import colouring, is_colouring, is_odd_route, odd_route
from endlessnets.errors import InvalidName
from endlessnets.far import MOST_FAR, far_paper, is_far_paper
from endlessnets.holdings import check_held, is_held
from endlessnets.resting import is_rest, rest
from endlessnets.samenesses import is_verdict, verdict
from endlessnets.steadiness import is_steady
from endlessnets.vectors import is_vector


def rest_value(book):
    """What a right paper says of the rest of a book."""
    return rest(book)


def verdict_value(one, other):
    """What a right paper says of two books."""
    return verdict(one, other)


def colour_value(book):
    """What a right paper says of the colours of a book."""
    found = colouring(book)
    return ("odd", odd_route(book)) if found is None else ("colouring", found)


def is_told_pair(value):
    """Whether any value is a tuple of two items."""
    return isinstance(value, tuple) and len(value) == 2


def is_right_rest(book, value):
    """Whether any value tells rest positions of a book that is whole."""
    return is_whole(book) and is_rest(book, value)


def is_right_verdict(one, other, value):
    """Whether any value is the verdict on two books that are steady."""
    for book in (one, other):
        if not is_whole(book) or not is_steady(book):
            return False
    return is_verdict(one, other, value)


def is_right_colour(book, value):
    """Whether any value tells the colouring or an odd route of a book that is whole."""
    if not is_whole(book) or not is_told_pair(value):
        return False
    word, told = value
    if word == "colouring":
        return is_colouring(book, told)
    return word == "odd" and is_odd_route(book, told)


def is_right_far(book, value):
    """Whether any value is a vector with a far paper for it."""
    if not is_whole(book) or book.directions > MOST_FAR or not is_told_pair(value):
        return False
    vector, told = value
    return is_vector(vector, book.directions) and is_far_paper(book, vector, told)


NAMES = {"rest": 1, "verdict": 2, "colour": 1, "far": 1}
CHECKS = {"rest": is_right_rest, "verdict": is_right_verdict, "colour": is_right_colour, "far": is_right_far}
VALUES = {"rest": rest_value, "verdict": verdict_value, "colour": colour_value}


def paper_on(books, word, names):
    """A right paper on the books with some names."""
    if not isinstance(word, str) or word not in VALUES or len(names) != NAMES[word]:
        raise InvalidName(word)
    for name in names:
        check_held(books, name)
    value = VALUES[word]
    found = [books[name] for name in names]
    return (word, names, value(*found))


def far_paper_on(books, name, vector):
    """A right paper on a vector of the book with a name."""
    check_held(books, name)
    return ("far", (name,), (vector, far_paper(books[name], vector)))


def is_right(books, paper):
    """Whether any value is a right paper, for a dict from names to books."""
    if not isinstance(paper, tuple) or len(paper) != 3:
        return False
    word, names, value = paper
    if not isinstance(word, str) or word not in CHECKS:
        return False
    if not isinstance(names, tuple) or len(names) != NAMES[word] or not all([is_held(books, name) for name in names]):
        return False
    check = CHECKS[word]
    found = [books[name] for name in names]
    return check(*found, value)
