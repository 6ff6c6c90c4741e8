"""Struck books and weakest lots ([36])."""

import itertools
import random
import unittest

from endlessnets.classes import is_whole
from endlessnets.strikes import struck, weakest
from samples import CHAIN, COMB, CUBE, DIAMOND, FALLING, HEXAGONAL, LADDER, SQUARE, TREE, TWINNED, WHOLE, plain
from samples import random_whole_books, turned_by_hand
from test_turns import KAGOME
from tools import ANY_VALUES, falls_first, gives_new, outcome, raised

# Any two of the vectors without 1 have no common divisor, so three of the four ties must go, and 1 among them.
COPRIME = plain(1, "a", [("a", "a", (number,)) for number in (1, 2, 3, 5)])
BRAID = plain(1, "ab", [("a", "b", (number,)) for number in range(4)])
BOOKS = [*WHOLE, KAGOME, COPRIME, BRAID, *random_whole_books(561, 40)]
WRONG = [value for value in ANY_VALUES if not (type(value) is int and 1 <= value <= 3)] + [4, -1, 2.0, "2"]


def lots_by_hand(book, most):
    for many in range(1, most + 1):
        found = [lot for lot in itertools.combinations(book.ties(), many) if not is_whole(book.without(*lot))]
        if found:
            return found
    return []


class StruckTest(unittest.TestCase):
    def test_struck(self):
        chance = random.Random(562)
        for book in BOOKS:
            ties = chance.sample(book.ties(), min(3, len(book.ties())))
            told = [chance.choice([tie, turned_by_hand(tie)]) for tie in ties]
            found = struck(ties=told, book=book)
            self.assertEqual(found.ties(), [tie for tie in book.ties() if tie not in ties])
            self.assertEqual((found.places(), found.directions), (book.places(), book.directions))
            self.assertEqual(struck(book, tuple(told + told)), found)
            self.assertEqual(struck(book, []), book)
            self.assertEqual(struck(book, ()), book)
            self.assertEqual(struck(book, book.ties()).ties(), [])

    def test_books_that_fall(self):
        for book, _ in FALLING:
            self.assertEqual(struck(book, book.ties()).ties(), [])

    def test_unknown_ties(self):
        right = ("b", "a", (0, -1))
        values = [value for value in ANY_VALUES if value != ("a", "b", (0, 0))]
        for value in values + [("a", "b", (0, True)), ["a", "b", (0, 1)], ("a", "b", (5, 5)), ("a", "b", (False, 0))]:
            for ties in ([value], [right, value], [right, value, None], [value, "x"], (right, value)):
                self.assertEqual(outcome(struck, COMB, ties), raised("UnknownTie", tie=value), ties)


class WeakestTest(unittest.TestCase):
    def test_by_hand(self):
        sizes = set()
        for book in BOOKS:
            for most in (1, 2, 3):
                wanted = lots_by_hand(book, most)
                self.assertEqual(weakest(book, most=most), wanted)
                sizes.update(len(lot) for lot in wanted)
            self.assertEqual(weakest(book=book), lots_by_hand(book, 2))
            gives_new(self, weakest, book, most=3)
        self.assertEqual(sizes, {1, 2, 3})

    def test_known_lots(self):
        self.assertEqual(weakest(CHAIN), [(("a", "a", (1,)),)])
        self.assertEqual(weakest(SQUARE, most=1), [(tie,) for tie in SQUARE.ties()])
        self.assertEqual(weakest(DIAMOND), [(tie,) for tie in DIAMOND.ties()])
        self.assertEqual(weakest(CUBE.with_tie(("a", "a", (1, 1, 1)))),
                         list(itertools.combinations(CUBE.with_tie(("a", "a", (1, 1, 1))).ties(), 2)))
        self.assertEqual(weakest(HEXAGONAL), list(itertools.combinations(HEXAGONAL.ties(), 2)))
        self.assertEqual(weakest(HEXAGONAL, most=1), [])
        self.assertEqual(weakest(LADDER), [(("a", "b", (0,)),)])
        self.assertEqual([len(weakest(book)[0]) for book in (TREE, TWINNED)], [1, 2])
        lots = [tuple(("a", "a", (number,)) for number in lot) for lot in ((1, 2, 3), (1, 2, 5), (1, 3, 5))]
        self.assertEqual(weakest(COPRIME, most=3), lots)
        self.assertEqual([weakest(COPRIME), weakest(COPRIME, most=2), weakest(COPRIME, most=1)], [[], [], []])
        self.assertEqual(weakest(BRAID, most=3), lots_by_hand(BRAID, 3))
        many = plain(1, "a", [("a", "a", (number,)) for number in (1, 2, 3, 5, 7)])
        self.assertEqual(weakest(many, most=3), [])

    def test_larger_books(self):
        for book in random_whole_books(563, 200):
            if len(book.ties()) > 10:
                self.assertEqual(weakest(book, most=3), lots_by_hand(book, 3))

    def test_errors(self):
        for value in WRONG:
            self.assertEqual(outcome(weakest, SQUARE, most=value), raised("InvalidNumber", value=value))
            falls_first(self, weakest, most=value, falling=FALLING)
        falls_first(self, weakest, falling=FALLING)
        self.assertRaises(TypeError, weakest, SQUARE, 2)


if __name__ == "__main__":
    unittest.main()
