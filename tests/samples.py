"""Books for the tests."""

import random

from endlessnets.books import Book


def plain(directions, names, ties):
    return Book(directions, [(name, "node") for name in names], ties)


LONELY = [plain(size, "a", []) for size in (1, 2, 3)]
CHAIN = plain(1, "a", [("a", "a", (1,))])
SQUARE = plain(2, "a", [("a", "a", (1, 0)), ("a", "a", (0, 1))])
CUBE = plain(3, "a", [("a", "a", (1, 0, 0)), ("a", "a", (0, 1, 0)), ("a", "a", (0, 0, 1))])
COMB = plain(2, "ab", [("a", "b", (0, 0)), ("b", "a", (0, -1)), ("a", "b", (1, 0))])
DIAMOND = plain(3, "ab", [("a", "b", (0, 0, 0)), ("a", "b", (1, 0, 0)), ("a", "b", (0, 1, 0)), ("a", "b", (0, 0, 1))])
TWO_PIECES = plain(2, "a", [("a", "a", (2, 0)), ("a", "a", (0, 1))])
LINES = plain(2, "a", [("a", "a", (1, 0))])
DOTS = plain(2, "ab", [("a", "b", (3, 1))])
SLANTED = plain(2, "abc", [("a", "b", (1, 2)), ("b", "c", (-3, 1)), ("c", "a", (4, 1)), ("b", "a", (0, 3)),
                           ("c", "c", (2, -2))])
TWO_CLASSES = Book(3, [("b", "x"), ("a", "y"), ("c", "x"), ("d", "z")],
                   [("a", "c", (0, 0, 1)), ("c", "a", (2, 0, 0)), ("a", "a", (0, 3, 0)), ("c", "c", (0, 0, 2)),
                    ("b", "d", (1, 1, 1)), ("d", "b", (0, 0, 0)), ("b", "b", (1, 0, 0)), ("d", "d", (0, 1, 0))])
FAR = plain(1, "ab", [("a", "b", (10 ** 39,)), ("b", "a", (-10 ** 39 + 1,))])
FINITE_PAIR = plain(1, "ab", [("a", "b", (5,))])
ALL = [*LONELY, CHAIN, SQUARE, CUBE, COMB, DIAMOND, TWO_PIECES, LINES, DOTS, SLANTED, TWO_CLASSES, FAR, FINITE_PAIR]


def random_book(chance, directions, many, ties, bound=2):
    """A book with so many places and at most so many ties."""
    names = [letter for letter in "abcdefghijkl"[:many]]
    told, kept = set(), []
    for _ in range(ties):
        one, other = chance.choice(names), chance.choice(names)
        vector = tuple(chance.randint(-bound, bound) for _ in range(directions))
        opposite = tuple(-number for number in vector)
        if (one, other, vector) not in told and (one != other or any(vector)):
            told.update([(one, other, vector), (other, one, opposite)])
            kept.append((one, other, vector))
    return Book(directions, [(name, chance.choice(["node", "leaf"])) for name in names], kept)


def random_books(seed, count=12):
    chance = random.Random(seed)
    return [random_book(chance, chance.randint(1, 3), chance.randint(1, 6), chance.randint(0, 9)) for _ in range(count)]


def turned_by_hand(tie):
    return (tie[1], tie[0], tuple(-number for number in tie[2]))
