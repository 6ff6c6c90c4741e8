"""Own books ([11])."""

import copy
import itertools
import random
import unittest

from endlessnets.books import Book
from endlessnets.classes import classes, hang_together, is_whole, place_offset, rounds_lattice
from endlessnets.ownbooks import OwnBook
from endlessnets.spots import are_joined, is_spot, neighbours
from endlessnets.vectors import led
from samples import ALL, BOTH, CHAIN, CUBE, DOTS, FAR, LINES, LONELY, SLANTED, SQUARE, TWO_CLASSES, TWO_PIECES, plain
from samples import random_books
from test_spots import plus, some_spots, wrong_spots
from tools import ANY_VALUES, outcome, raised

# Places with offsets that are not zero, and a basis with a number above 1 beside a pivot.
STAIRS = Book(3, [("d", "x"), ("b", "y"), ("c", "z"), ("a", "lone")],
              [("b", "c", (1, 1, 0)), ("c", "d", (0, 1, 2)), ("d", "b", (1, 0, 1)), ("b", "b", (3, 5, 1)),
               ("c", "d", (0, 4, 2))])
SLOPE = plain(3, "ab", [("a", "b", (1, 1, 1)), ("b", "a", (1, 0, -1)), ("a", "a", (0, 3, 1))])
PAIRS = [(book, name) for book in ALL + [BOTH, STAIRS, SLOPE] + random_books(301, 30) for name in book.names()]
ENDLESS = [(book, name) for book, name in PAIRS if rounds_lattice(book, name).rank > 0]


class OwnBookTest(unittest.TestCase):
    def test_the_book(self):
        for book, name in ENDLESS:
            own = OwnBook(book, name)
            members = next(members for members in classes(book) if name in members)
            rounds = rounds_lattice(book, name)
            self.assertEqual(own.book.places(), [place for place in book.places() if place[0] in members])
            self.assertEqual(own.book.directions, rounds.rank)
            self.assertIs(is_whole(own.book), True)
            self.assertEqual(len(own.book.ties()), len([tie for tie in book.ties() if tie[0] in members]))
            self.assertEqual((own.outer, own.name, len(own)), (book, name, len(members)))
            self.assertEqual(repr(own), f"OwnBook({len(members)} places, rank {rounds.rank})")

    def test_spots_of_the_piece(self):
        chance = random.Random(302)
        for book, name in ENDLESS:
            own = OwnBook(book, name)
            rounds = rounds_lattice(book, name)
            for place in own.book.names():
                for bound in (2, 10 ** 38):
                    numbers = tuple(chance.randint(-bound, bound) for _ in range(rounds.rank))
                    outer = own.to_outer((place, numbers))
                    offset = place_offset(book, name, place)
                    self.assertEqual(outer, (place, plus(offset, led(numbers, rounds.basis()))))
                    self.assertEqual(own.to_own(outer), (place, numbers))
                    self.assertIs(hang_together(book, (name, (0,) * book.directions), outer), True)
                    self.assertEqual(sorted(own.to_own(near) for near in neighbours(book, outer)),
                                     neighbours(own.book, (place, numbers)))

    def test_spots_of_other_pieces(self):
        for book, name in ENDLESS:
            own = OwnBook(book, name)
            first = (name, (0,) * book.directions)
            self.assertEqual(own.to_own(first), (name, (0,) * own.book.directions))
            for spot in some_spots(book, 303):
                found = own.to_own(spot)
                self.assertIs(found is not None, hang_together(book, first, spot))
                if found is not None:
                    self.assertIs(is_spot(own.book, found), True)
                    self.assertEqual(own.to_outer(found), spot)

    def test_joins(self):
        for book, name in ENDLESS:
            own = OwnBook(book, name)
            if len(own) > 3 or own.book.directions > 2:
                continue
            vectors = itertools.product((-1, 0, 1), repeat=own.book.directions)
            spots = [(place, vector) for vector in vectors for place in own.book.names()]
            for one, other in itertools.product(spots, repeat=2):
                self.assertIs(are_joined(own.book, one, other),
                              are_joined(book, own.to_outer(one), own.to_outer(other)))

    def test_by_hand(self):
        own = OwnBook(LINES, "a")
        self.assertEqual((own.book, repr(own)), (CHAIN, "OwnBook(1 places, rank 1)"))
        self.assertEqual((own.to_own(("a", (5, 0))), own.to_own(("a", (5, 1)))), (("a", (5,)), None))
        own = OwnBook(TWO_PIECES, "a")
        self.assertEqual(own.book, SQUARE)
        self.assertEqual((own.to_own(("a", (4, 3))), own.to_own(("a", (1, 0)))), (("a", (2, 3)), None))
        self.assertEqual(own.to_outer(("a", (-2, 3))), ("a", (-4, 3)))
        own = OwnBook(BOTH, "c")
        self.assertEqual((own.book.places(), own.book.ties()), ([("c", "node")], [("c", "c", (0, 1)), ("c", "c", (1, 0))]))
        self.assertIsNone(own.to_own(("a", (0, 0))))
        own = OwnBook(STAIRS, "c")
        own = OwnBook(SLOPE, "a")
        self.assertEqual(rounds_lattice(SLOPE, "a").basis(), [(2, 1, 0), (0, 3, 1)])
        self.assertEqual(own.book, plain(2, "ab", [("a", "b", (0, 0)), ("b", "a", (1, 0)), ("a", "a", (0, 1))]))
        self.assertEqual(own.to_outer(("b", (-1, 2))), ("b", (-1, 6, 3)))
        self.assertEqual(own.to_own(("b", (-1, 6, 3))), ("b", (-1, 2)))
        self.assertIsNone(own.to_own(("b", (-1, 6, 2))))
        self.assertEqual(repr(own), "OwnBook(2 places, rank 2)")
        self.assertEqual(OwnBook(STAIRS, "c").book.names(), ["b", "c", "d"])

    def test_offsets(self):
        net = plain(1, "ab", [("a", "b", (5,)), ("b", "a", (-3,))])
        for name, offsets in (("a", {"a": 0, "b": 1}), ("b", {"a": 1, "b": 0})):
            own = OwnBook(net, name)
            self.assertEqual({place: own.to_outer((place, (0,)))[1][0] for place in "ab"}, offsets)
            self.assertEqual(len(own.book.ties()), 2)

    def test_names_and_outer(self):
        self.assertEqual(OwnBook(name="b", book=BOTH).book, OwnBook(BOTH, "b").book)
        book = copy.deepcopy(TWO_CLASSES)
        own = OwnBook(book, "b")
        own.to_own(spot=("b", (0, 0, 0)))
        own.to_outer(spot=("d", (0,) * own.book.directions))
        self.assertEqual(book, TWO_CLASSES)
        self.assertEqual(own.outer.text(), TWO_CLASSES.text())
        for other in (SQUARE, CUBE, FAR):
            self.assertEqual(OwnBook(other, "a").book.directions, other.directions)


class ErrorTest(unittest.TestCase):
    def test_unknown_names(self):
        for book in (SQUARE, LONELY[0]):
            for value in ANY_VALUES + ["zz", "b"]:
                if value != "a":
                    self.assertEqual(outcome(OwnBook, book, value), raised("UnknownName", name=value))

    def test_finite(self):
        for book, name in PAIRS:
            if rounds_lattice(book, name).rank == 0:
                self.assertEqual(outcome(OwnBook, book, name), raised("Finite", name=name))
        self.assertEqual(outcome(OwnBook, DOTS, "b"), raised("Finite", name="b"))
        self.assertEqual(outcome(OwnBook, STAIRS, "a"), raised("Finite", name="a"))

    def test_unknown_spots(self):
        own = OwnBook(TWO_PIECES, "a")
        for value in ANY_VALUES + wrong_spots(TWO_PIECES):
            if value != ("a", (0, 0)):
                self.assertEqual(outcome(own.to_own, value), raised("UnknownSpot", spot=value))
                self.assertEqual(outcome(own.to_outer, value), raised("UnknownSpot", spot=value))
        own = OwnBook(SLANTED, "b")
        for value in ANY_VALUES + wrong_spots(own.book):
            if not is_spot(own.book, value):
                self.assertEqual(outcome(own.to_outer, value), raised("UnknownSpot", spot=value))
        # A spot of the outer book is none of the own book, if the numbers of directions differ.
        own = OwnBook(LINES, "a")
        self.assertEqual(outcome(own.to_outer, ("a", (1, 0))), raised("UnknownSpot", spot=("a", (1, 0))))
        self.assertEqual(outcome(own.to_own, ("a", (1,))), raised("UnknownSpot", spot=("a", (1,))))
        own = OwnBook(BOTH, "c")
        self.assertEqual(outcome(own.to_outer, ("a", (1, 0))), raised("UnknownSpot", spot=("a", (1, 0))))


if __name__ == "__main__":
    unittest.main()
