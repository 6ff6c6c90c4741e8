"""The spots of the net of a book, their neighbours, and what lies around them."""

from endlessnets.errors import InvalidNumber, UnknownSpot
from endlessnets.vectors import is_vector, vector_plus
from endlessnets.words import is_number

MOST_DEPTH = 20


def is_spot(book, value):
    """Whether any value is a spot of the net."""
    if not isinstance(value, tuple) or len(value) != 2:
        return False
    return value[0] in book and is_vector(value[1], book.directions)


def check_spot(book, value):
    """Raises the error for a value that is no spot of the net."""
    if not is_spot(book, value):
        raise UnknownSpot(value)


def shifted(spot, vector):
    """A spot, shifted by a vector."""
    return (spot[0], vector_plus(spot[1], vector))


def spots_around(book, spot):
    """The ascending list of the neighbours of a spot."""
    return [(tie[1], vector_plus(spot[1], tie[2])) for tie in book.leaving(spot[0])]


def neighbours(book, spot):
    """The ascending list of the spots that are joined with a spot."""
    check_spot(book, spot)
    return spots_around(book, spot)


def are_joined(book, one, other):
    """Whether two values of any kind are spots that are joined."""
    return is_spot(book, one) and is_spot(book, other) and other in spots_around(book, one)


def next_shell(book, shell, ahead):
    """The shell behind a shell and the one ahead of that."""
    passed = set([*ahead, *shell])
    found = set()
    for spot in shell:
        for near in spots_around(book, spot):
            if near not in passed:
                found.add(near)
    return sorted(found)


def shells(book, spot, depth):
    """The shells of a spot at the depths from 0 to depth."""
    check_spot(book, spot)
    if not is_number(depth, 0, MOST_DEPTH):
        raise InvalidNumber(depth)
    ahead = []
    shell = [spot]
    yield [spot]
    for _ in range(depth):
        after = next_shell(book, shell, ahead)
        ahead = shell
        shell = after
        # The caller gets a list of its own, since this one is needed for the next shell.
        yield list(shell)


def distance(book, one, other, *, most=8):
    """The least number of joins between two spots, None if it is above most."""
    check_spot(book, one)
    check_spot(book, other)
    if not is_number(most, 0, MOST_DEPTH):
        raise InvalidNumber(most)
    ahead, shell = [], [one]
    opposite_ahead, opposite = [], [other]
    steps = 0
    # Shells grow from both ends, since two of half the depth are much smaller than one of the whole depth.
    while len(set(shell) & set(opposite)) == 0:
        if steps == most:
            return None
        if len(shell) <= len(opposite):
            ahead, shell = shell, next_shell(book, shell, ahead)
        else:
            opposite_ahead, opposite = opposite, next_shell(book, opposite, opposite_ahead)
        steps = steps + 1
    return steps
