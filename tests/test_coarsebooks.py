"""Coarse books ([22])."""

import copy
import itertools
import random
import unittest

from endlessnets.books import Book
from endlessnets.classes import is_whole, pieces
from endlessnets.coarsebooks import CoarseBook
from endlessnets.lattices import Lattice, sublattices
from endlessnets.leastbooks import LeastBook
from endlessnets.motions import Motion
from endlessnets.spots import is_spot, neighbours, shifted
from endlessnets.steadiness import is_steady
from endlessnets.vectors import identity, led
from endlessnets.words import list_name
from samples import ALL, BOTH, CHAIN, COMB, CUBE, DIAMOND, FAR, LADDER, LINES, SKEW, SQUARE, STEADY, TREE, TWO_CLASSES
from samples import TWO_PIECES, WIDE, plain, random_books
from test_spots import minus, some_spots, wrong_spots
from tools import ANY_VALUES, outcome, raised

BIG = 10 ** 39


def some_lattices(directions, seed):
    chance = random.Random(seed)
    found = [lattice for index in (1, 2, 3) for lattice in sublattices(directions, index)]
    chance.shuffle(found)
    return found[:5] + [Lattice(directions, [tuple(5 if at == row else 0 for at in range(directions))
                                             if row == 0 else tuple(1 if at == row else 2 * (at > row)
                                                                    for at in range(directions))
                                             for row in range(directions)])]


def pairs_of(book, lattice):
    return sorted((name, remainder) for name in book.names() for remainder in lattice.remainders())


CASES = [(book, lattice) for book in ALL + [BOTH, SKEW, TREE, LADDER] + random_books(381, 20)
         for lattice in some_lattices(book.directions, 382) if len(book) * lattice.cells <= 64]


class CoarseBookTest(unittest.TestCase):
    def test_the_book(self):
        for book, lattice in CASES:
            coarse = CoarseBook(book, lattice)
            told = pairs_of(book, lattice)
            self.assertEqual(coarse.book.places(), [(list_name(at), book.kind(name)) for at, (name, _) in enumerate(told)])
            self.assertEqual((coarse.outer, coarse.lattice, len(coarse)), (book, lattice, lattice.cells))
            self.assertEqual(repr(coarse), f"CoarseBook({len(told)} of {len(book)} places)")
            self.assertEqual(len(coarse.book.ties()), len(book.ties()) * lattice.cells)
            self.assertEqual(coarse.book.directions, book.directions)
            if is_whole(book):
                self.assertIs(is_whole(coarse.book), True)
            elif pieces(book) is not None:
                self.assertEqual(pieces(coarse.book), pieces(book))

    def test_spots(self):
        chance = random.Random(383)
        for book, lattice in CASES:
            coarse = CoarseBook(book, lattice)
            told = pairs_of(book, lattice)
            for spot in some_spots(book, 384):
                found = coarse.to_coarse(spot=spot)
                self.assertIs(is_spot(coarse.book, found), True)
                remainder = lattice.remainder(spot[1])
                self.assertEqual(found[0], list_name(told.index((spot[0], remainder))))
                self.assertEqual(led(found[1], lattice.basis()), minus(spot[1], remainder))
                self.assertEqual(coarse.to_outer(spot=found), spot)
                self.assertEqual(sorted(coarse.to_coarse(near) for near in neighbours(book, spot)),
                                 neighbours(coarse.book, found))
            for name in coarse.book.names():
                spot = (name, tuple(chance.randint(-BIG, BIG) for _ in range(book.directions)))
                self.assertEqual(coarse.to_coarse(coarse.to_outer(spot)), spot)

    def test_motions(self):
        chance = random.Random(385)
        for book, lattice in CASES:
            coarse = CoarseBook(book, lattice)
            for bound in (2, BIG):
                vector = tuple(chance.randint(-bound, bound) for _ in range(book.directions))
                motion = coarse.coarse_motion(vector)
                self.assertIsInstance(motion, Motion)
                self.assertEqual(motion.matrix(), identity(book.directions))
                self.assertIs(motion.fits(coarse.book), True)
                self.assertEqual(motion.carry(coarse.book), coarse.book)
                for spot in some_spots(book, 386)[:5]:
                    self.assertEqual(motion.lead(coarse.to_coarse(spot)), coarse.to_coarse(shifted(spot, vector)))
            self.assertEqual(coarse.coarse_motion(vector=(0,) * book.directions), Motion.staying(coarse.book))

    def test_by_hand(self):
        wide = CoarseBook(lattice=Lattice(2, [(2, 0), (0, 1)]), book=SQUARE)
        self.assertEqual(wide.book, WIDE)
        self.assertEqual([wide.to_coarse(("a", vector)) for vector in ((0, 0), (1, 0), (-1, 5), (4, -2))],
                         [("aa", (0, 0)), ("ab", (0, 0)), ("ab", (-1, 5)), ("aa", (2, -2))])
        self.assertEqual(wide.coarse_motion((1, 0)).pictures(), {"aa": ("ab", (0, 0)), "ab": ("aa", (1, 0))})
        self.assertEqual(repr(CoarseBook(COMB, Lattice(2, [(2, 1), (0, 1)]))), "CoarseBook(4 of 2 places)")
        slant = CoarseBook(SQUARE, Lattice(2, [(1, 1), (0, 2)]))
        self.assertEqual(slant.book.ties(), [("aa", "ab", (-1, 0)), ("aa", "ab", (0, -1)), ("aa", "ab", (0, 0)),
                                             ("aa", "ab", (1, -1))])
        same = CoarseBook(Book(1, [("b", "x"), ("a", "y")], [("a", "b", (5,))]), Lattice(1, [(1,)]))
        self.assertEqual(same.book, Book(1, [("aa", "y"), ("ab", "x")], [("aa", "ab", (5,))]))

    def test_list_names(self):
        coarse = CoarseBook(CHAIN, Lattice(1, [(64,)]))
        self.assertEqual(coarse.book.names(), [list_name(at) for at in range(64)])
        self.assertEqual((coarse.book.names()[25:28], coarse.book.names()[63]), (["az", "ba", "bb"], "cl"))
        self.assertEqual(coarse.to_outer(("bb", (1,))), ("a", (27 + 64,)))
        self.assertEqual(coarse.to_coarse(("a", (-1,))), ("cl", (-1,)))
        cube = CoarseBook(CUBE, Lattice(3, [(4, 0, 0), (0, 4, 0), (0, 0, 4)]))
        self.assertEqual(cube.to_coarse(("a", (1, 2, 3))), (list_name(16 + 8 + 3), (0, 0, 0)))

    def test_least_books(self):
        for book in STEADY:
            for lattice in some_lattices(book.directions, 387):
                coarse = CoarseBook(book, lattice).book
                self.assertIs(is_steady(coarse), True)
                self.assertEqual(len(LeastBook(coarse).book), len(LeastBook(book).book))

    def test_objects_stay(self):
        lattice, book = Lattice(2, [(2, 1), (0, 2)]), copy.deepcopy(COMB)
        coarse = CoarseBook(book, lattice)
        coarse.to_coarse(("a", (1, 1)))
        coarse.coarse_motion((1, 1))
        self.assertEqual((lattice, book.text()), (Lattice(2, [(2, 1), (0, 2)]), COMB.text()))


class ErrorTest(unittest.TestCase):
    def test_lattices(self):
        for value in ANY_VALUES + [Lattice(1, [(1,)]), Lattice(3, identity(3)), Lattice(2), Lattice(2, [(1, 1)]),
                                   [(1, 0), (0, 1)], identity(2), COMB, 2]:
            self.assertEqual(outcome(CoarseBook, SQUARE, value), raised("InvalidLattice"), value)
        self.assertEqual(outcome(CoarseBook, TWO_CLASSES, Lattice(3, [(1, 0, 0), (0, 1, 1)])), raised("InvalidLattice"))

    def test_too_many_places(self):
        for book, lattice, fits in ((CHAIN, [(64,)], True), (CHAIN, [(65,)], False), (FAR, [(32,)], True),
                                    (FAR, [(33,)], False), (CHAIN, [(BIG,)], False)):
            found = outcome(CoarseBook, book, Lattice(1, lattice))
            self.assertEqual(found[0] if fits else found, "returned" if fits else raised("TooMany", most=64))
        many = plain(1, "a", [("a", "a", (at,)) for at in range(1, 41)])
        self.assertEqual(outcome(CoarseBook, many, Lattice(1, [(65,)])), raised("TooMany", most=64))
        self.assertEqual(outcome(CoarseBook, DIAMOND, Lattice(3, [(3, 0, 0), (0, 11, 0), (0, 0, 1)])),
                         raised("TooMany", most=64))

    def test_too_many_ties(self):
        forty = plain(1, "a", [("a", "a", (at,)) for at in range(1, 41)])
        self.assertEqual(len(CoarseBook(forty, Lattice(1, [(10,)])).book.ties()), 400)
        self.assertEqual(outcome(CoarseBook, forty, Lattice(1, [(11,)])), raised("TooMany", most=400))
        one_more = plain(1, ["aa", "ab"], [("aa", "ab", (at,)) for at in range(134)])
        self.assertEqual(outcome(CoarseBook, one_more, Lattice(1, [(3,)])), raised("TooMany", most=400))
        full = one_more.without(("aa", "ab", (0,)))
        self.assertEqual(len(CoarseBook(full, Lattice(1, [(3,)])).book.ties()), 399)
        most = plain(1, "a", [("a", "a", (at,)) for at in range(1, 401)])
        self.assertEqual(len(CoarseBook(most, Lattice(1, [(1,)])).book.ties()), 400)
        self.assertEqual(outcome(CoarseBook, most, Lattice(1, [(2,)])), raised("TooMany", most=400))

    def test_vectors_and_spots(self):
        coarse = CoarseBook(SQUARE, Lattice(2, [(2, 0), (0, 1)]))
        for value in ANY_VALUES + [(1, 2, 3), [1, 2], (1, None), (1, True)]:
            if value not in ((1, 0), (1, 1), (0, 0)) or not all(type(number) is int for number in value):
                self.assertEqual(outcome(coarse.coarse_motion, value), raised("InvalidVector", at=0), value)
        for value in ANY_VALUES + wrong_spots(SQUARE) + [("aa", (0,)), ("ac", (0, 0))]:
            if value != ("a", (0, 0)):
                self.assertEqual(outcome(coarse.to_coarse, value), raised("UnknownSpot", spot=value))
            self.assertEqual(outcome(coarse.to_outer, value), raised("UnknownSpot", spot=value))
        self.assertEqual(outcome(coarse.to_coarse, ("aa", (0, 0))), raised("UnknownSpot", spot=("aa", (0, 0))))
        lines = CoarseBook(LINES, Lattice(2, [(1, 0), (0, 3)]))
        self.assertEqual((len(lines.book), lines.book.ties()), (3, [(name, name, (1, 0)) for name in ("aa", "ab", "ac")]))
        two = CoarseBook(TWO_PIECES, Lattice(2, [(2, 0), (0, 1)]))
        self.assertEqual(pieces(two.book), 2)
        self.assertEqual(len(list(itertools.chain(*[two.book.leaving(name) for name in two.book.names()]))), 8)


if __name__ == "__main__":
    unittest.main()
