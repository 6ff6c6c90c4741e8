"""Struck books, and the fewest ties without which a net is not one piece."""

from endlessnets.classes import check_whole
from endlessnets.errors import InvalidNumber
from endlessnets.lattices import hermite
from endlessnets.vectors import identity, vector_minus, vector_plus, zero
from endlessnets.words import is_number

MOST_LOT = 3


def ties_left(book, lot):
    """The ties of a book without those of a lot."""
    return [tie for tie in book.ties() if tie not in lot]


def tree_sums(book, ties):
    """The ties of a tree that reaches all places that some ties reach from the first one, and the sums of its paths."""
    ends = {name: [] for name in book.names()}
    for tie in ties:
        ends[tie[0]].append(tie)
        ends[tie[1]].append(tie)
    first = book.names()[0]
    sums = {first: zero(book.directions)}
    tree = []
    waiting = [first]
    while waiting:
        name = waiting.pop()
        for tie in ends[name]:
            one, other, vector = tie
            reached = other if one == name else one
            if reached not in sums:
                sums[reached] = vector_plus(sums[name], vector) if one == name else vector_minus(sums[name], vector)
                tree.append(tie)
                waiting.append(reached)
    return (tree, sums)


def first_rounds(ties, sums):
    """For each sum of a round of one tie and a tree, the first tie that gives it."""
    found = {}
    for tie in ties:
        one, other, vector = tie
        reached = vector_minus(vector_plus(sums[one], vector), sums[other])
        if reached not in found:
            found[reached] = tie
    return found


def whole_by(book, ties):
    """Some of the ties by which alone the book is whole, None if it is not whole by all of them."""
    found, sums = tree_sums(book, ties)
    if len(sums) < len(book):
        return None
    basis = []
    for reached, tie in first_rounds(ties, sums).items():
        after = hermite([*basis, reached], book.directions)
        if after != basis:
            found.append(tie)
            basis = after
        if basis == list(identity(book.directions)):
            return found
    return None


def lots_behind(book, lots):
    """The lots of one tie more that have a tie in common with each set of ties by which the book is whole."""
    found = {}
    for lot in lots:
        for tie in whole_by(book, ties_left(book, lot)):
            found[tuple(sorted([*lot, tie]))] = True
    return sorted(found)


def struck(book, ties):
    """The book without a list of ties, told from either end."""
    return book.without(*ties)


def weakest(book, *, most=2):
    """The ascending list of the weakest lots of ties, the empty list if they have more ties than most."""
    check_whole(book)
    if not is_number(most, 1, MOST_LOT):
        raise InvalidNumber(most)
    lots = [()]
    for _ in range(most):
        # A lot takes a tie from each set of ties by which the book is whole, so the others need not be tried.
        lots = lots_behind(book, lots)
        fatal = [lot for lot in lots if whole_by(book, ties_left(book, lot)) is None]
        if fatal:
            return fatal
    return []
