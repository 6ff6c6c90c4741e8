"""Settled books, without dead ends and twins, and the books that are restored from their kinds."""

from endlessnets.books import Book
from endlessnets.bounds import MOST_PLACES, MOST_TIES
from endlessnets.classes import check_whole
from endlessnets.errors import InvalidKind, TooMany
from endlessnets.kinds import check_size, dressed, free_names, listed, plain_many, readable_from, taken_off
from endlessnets.steadiness import hanging, twin_classes
from endlessnets.vectors import zero
from endlessnets.words import is_kind, is_plain


def book_within(book, kinds):
    """The book of the places with these kinds, and of the ties between them."""
    for kind in kinds.values():
        check_size(kind)
    ties = [tie for tie in book.ties() if tie[0] in kinds and tie[1] in kinds]
    return Book(book.directions, list(kinds.items()), ties)


def without_loose(book):
    """The peeled book of a book that is whole."""
    pairs = hanging(book)
    hung = {name: [] for name in book.names()}
    gone = {}
    for name, host in pairs:
        hung[host].append(dressed(book.kind(name), hung[name]))
        gone[name] = True
    return book_within(book, {name: dressed(kind, hung[name]) for name, kind in book.places() if name not in gone})


def without_twins(book):
    """The folded book of a book that is whole."""
    kinds = {name: kind for name, kind in book.places()}
    for spots in twin_classes(book):
        together = listed([book.kind(name) for name, _ in spots])
        for name, _ in spots:
            del kinds[name]
        kinds[spots[0][0]] = f"[{together}]"
    return book_within(book, kinds)


def peeled(book):
    """The book without its loose places, told in the kinds of those that stay."""
    check_whole(book)
    return without_loose(book)


def folded(book):
    """The book with one place in the place of each twin class."""
    check_whole(book)
    return without_twins(book)


def settled(book):
    """The book that is left when it is peeled and folded as often as this changes it."""
    check_whole(book)
    present = without_loose(book)
    after = without_twins(present)
    while len(after) < len(present):
        present = without_loose(after)
        after = without_twins(present)
    return present


def is_readable(value):
    """Whether any value is a readable kind."""
    return is_kind(value) and readable_from(value)


def told_again(ties, name, names):
    """Ties, in which each of some names stands in the place of a name."""
    found = []
    for one, other, vector in ties:
        lefts = names if one == name else [one]
        rights = names if other == name else [other]
        for left in lefts:
            for right in rights:
                found.append((left, right, vector))
    return found


def unfolded(book):
    """The places and ties of the restored book, for kinds that are readable."""
    kinds = {name: kind for name, kind in book.places()}
    ties = book.ties()
    waiting = book.names()
    while waiting:
        name = waiting.pop()
        if is_plain(kinds[name]):
            continue
        ahead, items = taken_off(kinds[name])
        if ahead:
            names = free_names(kinds, len(items))
            kinds[name] = ahead
            ties = [*ties, *[(name, new, zero(book.directions)) for new in names]]
        else:
            names = free_names(kinds, len(items) - 1)
            kinds[name] = items.pop(0)
            ties = told_again(ties, name, [name, *names])
        # The number of ties never falls again.
        if len(ties) > MOST_TIES:
            raise TooMany(MOST_TIES)
        for new, kind in zip(names, items):
            kinds[new] = kind
        waiting = [*waiting, name, *names]
    return (list(kinds.items()), ties)


def restored(book):
    """A book whose kinds are plain, with what the kinds of a book tell in places and ties."""
    check_whole(book)
    for _, kind in book.places():
        if not is_readable(kind):
            raise InvalidKind(kind)
    if sum([plain_many(kind) for _, kind in book.places()]) > MOST_PLACES:
        raise TooMany(MOST_PLACES)
    places, ties = unfolded(book)
    return Book(book.directions, places, ties)
