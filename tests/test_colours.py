"""Colourings and odd routes ([35])."""

import random
import unittest

from endlessnets.books import Book
from endlessnets.coarsebooks import CoarseBook
from endlessnets.colours import colour_of, colouring, is_colouring, is_odd_route, odd_route
from endlessnets.lattices import sublattices
from endlessnets.routes import is_route, route_length
from endlessnets.spots import neighbours
from samples import BEADS, CHAIN, COMB, CUBE, DIAMOND, FALLING, HEXAGONAL, LADDER, SKEW, SQUARE, WHOLE, plain
from samples import random_whole_books
from test_motions import random_motion
from test_spots import some_spots, wrong_spots
from test_turns import KAGOME
from tools import ANY_VALUES, falls_first, gives_new, outcome, raised

BOOKS = [*WHOLE, KAGOME, *random_whole_books(551, 60)]


def origin(book):
    return (book.names()[0], (0,) * book.directions)


class ColouringTest(unittest.TestCase):
    def test_exactly_one(self):
        found = {True: 0, False: 0}
        for book in BOOKS:
            self.assertEqual(colouring(book=book) is None, odd_route(book=book) is not None)
            found[colouring(book) is None] += 1
        self.assertGreater(min(found.values()), 10)

    def test_colourings(self):
        for book in BOOKS:
            told = colouring(book)
            if told is None:
                continue
            colours, changes = told
            self.assertTrue(isinstance(told, tuple) and isinstance(changes, tuple))
            self.assertEqual(list(colours), book.names())
            self.assertTrue(all(type(item) is int and item in (0, 1) for item in [*colours.values(), *changes]))
            self.assertEqual((len(changes), colours[book.names()[0]]), (book.directions, 0))
            for spot in some_spots(book, 552):
                colour = colour_of(book, spot)
                self.assertEqual(colour, (colours[spot[0]] + sum(a * b for a, b in zip(changes, spot[1]))) % 2)
                self.assertIs(type(colour), int)
                for near in neighbours(book, spot):
                    self.assertEqual(colour_of(spot=near, book=book), 1 - colour)
            gives_new(self, colouring, book)

    def test_by_hand(self):
        self.assertEqual(colouring(SQUARE), ({"a": 0}, (1, 1)))
        self.assertEqual(colouring(COMB), ({"a": 0, "b": 1}, (0, 0)))
        self.assertEqual(colouring(CUBE), ({"a": 0}, (1, 1, 1)))
        self.assertEqual(colouring(DIAMOND), ({"a": 0, "b": 1}, (0, 0, 0)))
        self.assertEqual(colouring(LADDER), ({"a": 0, "b": 1}, (1,)))
        self.assertEqual(colouring(BEADS), ({"a": 0, "b": 1, "c": 0, "d": 1}, (0,)))
        self.assertIsNone(colouring(HEXAGONAL))
        self.assertIsNone(colouring(KAGOME))
        net = plain(1, "ab", [("a", "b", (0,)), ("a", "b", (1,)), ("a", "a", (2,))])
        self.assertIsNone(colouring(net))
        # Each of the eight vectors is that of a colouring.
        for told in range(8):
            changes = tuple(told >> at & 1 for at in range(3))
            units = [tuple(int(at == other) for other in range(3)) for at in range(3)]
            ties = [("a", "a" if change else "b", unit) for change, unit in zip(changes, units)]
            book = plain(3, "ab", [("a", "b", (0, 0, 0)), *ties])
            self.assertEqual(colouring(book), ({"a": 0, "b": 1}, changes))

    def test_told_otherwise(self):
        chance = random.Random(553)
        for book in BOOKS[::3]:
            motion = random_motion(chance, book.names(), book.directions)
            other = motion.carry(book)
            self.assertEqual(colouring(other) is None, colouring(book) is None)
            if colouring(book) is None:
                continue
            start = colour_of(other, motion.lead(origin(book)))
            for spot in some_spots(book, 554):
                self.assertEqual((colour_of(other, motion.lead(spot)) - start) % 2, colour_of(book, spot))
        for book in (SQUARE, HEXAGONAL, SKEW, COMB):
            for lattice in sublattices(2, 4):
                self.assertEqual(colouring(CoarseBook(book, lattice).book) is None, colouring(book) is None)

    def test_is_colouring(self):
        for book in BOOKS[:20]:
            told = colouring(book)
            if told is not None:
                colours, changes = told
                self.assertIs(is_colouring(book, told), True)
                self.assertIs(is_colouring(book, ({name: colours[name] for name in reversed(colours)}, changes)), True)
                name = book.names()[-1]
                wrong = [list(told), (colours, list(changes)), ({**colours, name: 1 - colours[name]}, changes),
                         (colours, tuple(1 - item for item in changes)), ({**colours, "zz": 0}, changes),
                         ({name: bool(colours[name]) for name in colours}, changes), (colours, changes + (0,)),
                         (colours, tuple(bool(item) for item in changes)), (colours,), (colours, changes, 0),
                         ({name: colours[name] + 2 for name in colours}, changes), (list(colours.items()), changes),
                         ({name: str(colours[name]) for name in colours}, changes), ({}, changes), (changes, colours)]
                for value in wrong:
                    self.assertIs(is_colouring(book, value), False, value)
            for value in ANY_VALUES:
                self.assertIs(is_colouring(book, value), False)


class OddRouteTest(unittest.TestCase):
    def test_odd_routes(self):
        for book in BOOKS:
            found = odd_route(book)
            if found is None:
                continue
            self.assertIsInstance(found, list)
            self.assertIs(is_route(book, origin(book), origin(book), found), True)
            self.assertEqual(route_length(found) % 2, 1)
            self.assertIs(is_odd_route(book, found), True)
            self.assertIs(is_odd_route(book, tuple(found)), True)
            self.assertIs(is_odd_route(book, found + found), False)
            self.assertIs(is_odd_route(book, found[1:]), False)
            self.assertIs(is_odd_route(book, [list(part) for part in found]), False)
            gives_new(self, odd_route, book)
        for value in ANY_VALUES + [[]]:
            self.assertIs(is_odd_route(HEXAGONAL, value), False)

    def test_odd_by_a_closed_path(self):
        triangle = Book(1, [("a", "x"), ("b", "y"), ("c", "z")],
                        [("a", "b", (0,)), ("b", "c", (4,)), ("c", "a", (-4,)), ("a", "a", (1,))])
        self.assertIsNone(colouring(triangle))
        self.assertEqual(route_length(odd_route(triangle)) % 2, 1)

    def test_odd_by_vectors(self):
        net = plain(1, "a", [("a", "a", (10 ** 39,)), ("a", "a", (10 ** 39 - 1,))])
        found = odd_route(net)
        self.assertIs(is_route(net, origin(net), origin(net), found), True)
        self.assertEqual(route_length(found) % 2, 1)
        self.assertIsNone(odd_route(plain(1, "a", [("a", "a", (3,)), ("a", "a", (5,))])))


class ErrorTest(unittest.TestCase):
    def test_first_of_all(self):
        falls_first(self, colouring, falling=FALLING)
        falls_first(self, odd_route, falling=FALLING)
        falls_first(self, colour_of, None, falling=FALLING)

    def test_unknown_spots(self):
        for book in (SQUARE, HEXAGONAL):
            for value in ANY_VALUES + wrong_spots(book):
                if value != ("a", (0, 0)):
                    self.assertEqual(outcome(colour_of, book, value), raised("UnknownSpot", spot=value))
        self.assertIsNone(colour_of(HEXAGONAL, ("a", (5, 5))))
        self.assertEqual(colour_of(CHAIN, ("a", (10 ** 39 + 1,))), 1)


if __name__ == "__main__":
    unittest.main()
