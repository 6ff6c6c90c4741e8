"""Books for the tests."""

import random

from endlessnets import classes, steadiness
from endlessnets.books import Book


def plain(directions, names, ties):
    return Book(directions, [(name, "node") for name in names], ties)


LONELY = [plain(size, "a", []) for size in (1, 2, 3)]
CHAIN = plain(1, "a", [("a", "a", (1,))])
SQUARE = plain(2, "a", [("a", "a", (1, 0)), ("a", "a", (0, 1))])
CUBE = plain(3, "a", [("a", "a", (1, 0, 0)), ("a", "a", (0, 1, 0)), ("a", "a", (0, 0, 1))])
COMB = plain(2, "ab", [("a", "b", (0, 0)), ("b", "a", (0, -1)), ("a", "b", (1, 0))])
DIAMOND = plain(3, "ab", [("a", "b", (0, 0, 0)), ("a", "b", (1, 0, 0)), ("a", "b", (0, 1, 0)), ("a", "b", (0, 0, 1))])
TWO_PIECES = plain(2, "a", [("a", "a", (2, 0)), ("a", "a", (0, 1))])
LINES = plain(2, "a", [("a", "a", (1, 0))])
DOTS = plain(2, "ab", [("a", "b", (3, 1))])
SLANTED = plain(2, "abc", [("a", "b", (1, 2)), ("b", "c", (-3, 1)), ("c", "a", (4, 1)), ("b", "a", (0, 3)),
                           ("c", "c", (2, -2))])
TWO_CLASSES = Book(3, [("b", "x"), ("a", "y"), ("c", "x"), ("d", "z")],
                   [("a", "c", (0, 0, 1)), ("c", "a", (2, 0, 0)), ("a", "a", (0, 3, 0)), ("c", "c", (0, 0, 2)),
                    ("b", "d", (1, 1, 1)), ("d", "b", (0, 0, 0)), ("b", "b", (1, 0, 0)), ("d", "d", (0, 1, 0))])
FAR = plain(1, "ab", [("a", "b", (10 ** 39,)), ("b", "a", (-10 ** 39 + 1,))])
FINITE_PAIR = plain(1, "ab", [("a", "b", (5,))])
ALL = [*LONELY, CHAIN, SQUARE, CUBE, COMB, DIAMOND, TWO_PIECES, LINES, DOTS, SLANTED, TWO_CLASSES, FAR, FINITE_PAIR]
LADDER = plain(1, "ab", [("a", "a", (1,)), ("b", "b", (1,)), ("a", "b", (0,))])
BOTH = plain(2, "abc", [("a", "b", (0, 0)), ("a", "b", (1, 0)), ("b", "a", (0, 1)), ("c", "c", (2, 1)),
                        ("c", "c", (0, 3))])
HEXAGONAL = plain(2, "a", [("a", "a", (1, 0)), ("a", "a", (0, 1)), ("a", "a", (1, 1))])
SKEW = Book(2, [("a", "x"), ("b", "x"), ("c", "y")],
            [("a", "b", (0, 0)), ("b", "c", (1, 0)), ("c", "a", (0, 1)), ("a", "a", (1, 1)), ("b", "c", (0, -2))])
WIDE = plain(2, ["aa", "ab"], [("aa", "aa", (0, 1)), ("aa", "ab", (-1, 0)), ("aa", "ab", (0, 0)),
                               ("ab", "ab", (0, 1))])
BEADS = plain(1, "abcd", [("a", "b", (0,)), ("b", "c", (0,)), ("c", "d", (0,)), ("d", "a", (1,))])
HEAVY = plain(1, "ab", [("a", "b", (10 ** 38 + shift,)) for shift in range(4)] + [("b", "b", (10 ** 39,))])
TREE = Book(1, [("a", "node"), ("b", "twig"), ("c", "leaf"), ("d", "leaf"), ("e", "bud")],
            [("a", "a", (1,)), ("a", "b", (0,)), ("b", "c", (3,)), ("d", "b", (-2,)), ("e", "a", (7,))])
TWINNED = Book(1, [("a", "x"), ("b", "z"), ("c", "y"), ("d", "x")],
               [("a", "b", (0,)), ("b", "a", (1,)), ("a", "c", (5,)), ("c", "a", (-4,)), ("d", "a", (2,)),
                ("d", "a", (3,))])
STEADY = [CHAIN, SQUARE, CUBE, COMB, DIAMOND, HEXAGONAL, SKEW, WIDE, BEADS]
WHOLE = [*STEADY, FAR, HEAVY, LADDER, TREE, TWINNED]
# The books of which the net is not one piece, with the numbers of their pieces.
FALLING = [(TWO_PIECES, 2), (LINES, None), (DOTS, None), (LONELY[0], None), (LONELY[2], None), (BOTH, 7),
           (FINITE_PAIR, None)]


def random_whole_books(seed, count=12):
    """Books whose nets are one piece."""
    chance = random.Random(seed)
    found = []
    while len(found) < count:
        directions, many = chance.randint(1, 3), chance.randint(1, 6)
        book = random_book(chance, directions, many, many + chance.randint(directions - 1, 6))
        if classes.is_whole(book):
            found.append(book)
    return found


def random_steady_books(seed, count=12):
    chance = random.Random(seed)
    found = []
    while len(found) < count:
        found += [book for book in random_whole_books(chance.random(), count) if steadiness.is_steady(book)]
    return found[:count]


def random_book(chance, directions, many, ties, bound=2):
    """A book with so many places and at most so many ties."""
    names = [letter for letter in "abcdefghijkl"[:many]]
    told, kept = set(), []
    for _ in range(ties):
        one, other = chance.choice(names), chance.choice(names)
        vector = tuple(chance.randint(-bound, bound) for _ in range(directions))
        opposite = tuple(-number for number in vector)
        if (one, other, vector) not in told and (one != other or any(vector)):
            told.update([(one, other, vector), (other, one, opposite)])
            kept.append((one, other, vector))
    return Book(directions, [(name, chance.choice(["node", "leaf"])) for name in names], kept)


def random_books(seed, count=12):
    chance = random.Random(seed)
    return [random_book(chance, chance.randint(1, 3), chance.randint(1, 6), chance.randint(0, 9)) for _ in range(count)]


def turned_by_hand(tie):
    return (tie[1], tie[0], tuple(-number for number in tie[2]))
