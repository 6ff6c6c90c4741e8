"""Classes, paths, rounds lattices, offsets, marks and pieces ([9], [10])."""

import itertools
import random
import unittest

from endlessnets.books import Book
from endlessnets.classes import check_whole, classes, hang_together, is_path, is_whole, mark, path_between, path_sum
from endlessnets.classes import pieces, place_offset, rounds_lattice
from endlessnets.lattices import Lattice
from endlessnets.spots import neighbours
from samples import ALL, CHAIN, COMB, CUBE, DIAMOND, DOTS, FAR, FINITE_PAIR, LINES, LONELY, SLANTED, SQUARE
from samples import TWO_CLASSES, TWO_PIECES, plain, random_books, turned_by_hand
from test_spots import minus, plus, some_spots, wrong_spots
from tools import ANY_VALUES, outcome, raised

BIG = 10 ** 39 + 7
NO_NAMES = [value for value in ANY_VALUES if value != "a"] + ["zz"]


def classes_by_hand(book):
    groups = [[name] for name in book.names()]
    for one, other, _ in book.ties():
        left = next(group for group in groups if one in group)
        right = next(group for group in groups if other in group)
        if left is not right:
            groups.remove(right)
            left.extend(right)
    return sorted(sorted(group) for group in groups)


def torus_parts(book, size):
    """The parts of the net if spots with the same vectors modulo a number are taken as one, by spots."""
    vectors = list(itertools.product(range(size), repeat=book.directions))
    above = {(name, vector): (name, vector) for name in book.names() for vector in vectors}

    def top(spot):
        while above[spot] != spot:
            spot = above[spot]
        return spot
    for one, other, vector in book.ties():
        for start in vectors:
            end = tuple(number % size for number in plus(start, vector))
            above[top((one, start))] = top((other, end))
    return {spot: top(spot) for spot in above}


def random_walk(chance, book, spot, steps):
    path = []
    for _ in range(steps):
        leaving = book.leaving(spot[0])
        if not leaving:
            break
        tie = chance.choice(leaving)
        path.append(tie)
        spot = (tie[1], plus(spot[1], tie[2]))
    return tuple(path), spot


class PathTest(unittest.TestCase):
    def test_classes(self):
        for book in ALL + random_books(71):
            self.assertEqual(classes(book), classes_by_hand(book))
        self.assertEqual(classes(book=TWO_CLASSES), [["a", "c"], ["b", "d"]])
        self.assertEqual(classes(LONELY[0]), [["a"]])
        classes(SQUARE)[0].clear()
        classes(SQUARE).clear()
        self.assertEqual(classes(SQUARE), [["a"]])

    def test_path_between(self):
        for book in ALL + random_books(72):
            for one, other in itertools.product(book.names(), repeat=2):
                path = path_between(book, one, other)
                together = any(one in members and other in members for members in classes(book))
                if one == other:
                    self.assertEqual(path, ())
                elif together:
                    self.assertIsInstance(path, tuple)
                    self.assertIs(is_path(book, path), True)
                    self.assertEqual((path[0][0], path[-1][1]), (one, other))
                else:
                    self.assertIsNone(path)
                self.assertEqual(path_between(other=other, one=one, book=book), path)

    def test_unknown_names(self):
        for value in NO_NAMES:
            for function in (path_between, place_offset):
                self.assertEqual(outcome(function, COMB, value, None), raised("UnknownName", name=value))
                self.assertEqual(outcome(function, COMB, "b", value), raised("UnknownName", name=value))
            self.assertEqual(outcome(rounds_lattice, COMB, value), raised("UnknownName", name=value))

    def test_path_sum(self):
        for book in ALL:
            self.assertEqual(path_sum(book, ()), (0,) * book.directions)
        path = (("a", "b", (0, 1)), ("b", "a", (-1, 0)), ("a", "b", (0, 0)))
        self.assertEqual(path_sum(COMB, path), (-1, 1))
        self.assertEqual(path_sum(path=path[:1], book=COMB), (0, 1))

    def test_is_path(self):
        chance = random.Random(73)
        for book in ALL + random_books(74):
            for spot in some_spots(book, 75)[:3]:
                path, end = random_walk(chance, book, spot, 6)
                self.assertIs(is_path(book, path), bool(path))
                self.assertIs(is_path(book, list(path)), False)
                self.assertEqual(path_sum(book, path), minus(end[1], spot[1]))
            for value in ANY_VALUES:
                self.assertIs(is_path(book, value), False)
        go, back = ("a", "b", (0, 1)), ("b", "a", (-1, 0))
        self.assertIs(is_path(COMB, (go, back)), True)
        for value in ((go, go), (go, back, back), (back, ("b", "a", (0, 0))), (go, list(back)), ((go,), back), go,
                      (go, ("b", "a", (-1, False))), (go, ("b", "a", (1, 0))), (go, None), ((),), (go, back, "a")):
            self.assertIs(is_path(COMB, value), False, value)
        self.assertIs(is_path(SQUARE, (("a", "a", (-1, 0)), ("a", "a", (0, 1)))), True)
        self.assertIs(is_path(value=(("a", "a", (True, 0)),), book=SQUARE), False)


class RoundsTest(unittest.TestCase):
    def test_examples(self):
        self.assertEqual(rounds_lattice(TWO_PIECES, "a"), Lattice(2, [(2, 0), (0, 1)]))
        self.assertEqual(rounds_lattice(COMB, "a").cells, 1)
        self.assertEqual(rounds_lattice(name="b", book=TWO_CLASSES).cells, 1)
        self.assertEqual(rounds_lattice(TWO_CLASSES, "c").basis(), [(2, 0, 1), (0, 3, 0), (0, 0, 2)])
        self.assertEqual(rounds_lattice(LONELY[2], "a").basis(), [])
        self.assertEqual(rounds_lattice(DOTS, "b").basis(), [])
        self.assertEqual(rounds_lattice(FAR, "b").basis(), [(1,)])

    def test_the_same_for_each_place(self):
        for book in ALL + random_books(76):
            for members in classes(book):
                lattices = [rounds_lattice(book, name) for name in members]
                self.assertTrue(all(lattice == lattices[0] for lattice in lattices))

    def test_closed_walks(self):
        chance = random.Random(77)
        for book in ALL + random_books(78):
            for name in book.names():
                lattice = rounds_lattice(book, name)
                for _ in range(20):
                    path, end = random_walk(chance, book, (name, (0,) * book.directions), chance.randint(0, 9))
                    rest = path_sum(book, path)
                    self.assertEqual(place_offset(book, name, end[0]), lattice.remainder(rest))
                    if end[0] == name:
                        self.assertIn(rest, lattice)

    def test_offsets(self):
        self.assertEqual(place_offset(COMB, "a", "b"), (0, 0))
        self.assertEqual(place_offset(DOTS, "a", "b"), (3, 1))
        self.assertEqual(place_offset(other="a", one="b", book=DOTS), (-3, -1))
        self.assertIsNone(place_offset(TWO_CLASSES, "a", "b"))
        self.assertEqual(place_offset(TWO_CLASSES, "a", "c"), (0, 0, 1))
        self.assertEqual(place_offset(TWO_CLASSES, "a", "a"), (0, 0, 0))


class MarkTest(unittest.TestCase):
    def test_example(self):
        self.assertEqual([pieces(TWO_PIECES), mark(TWO_PIECES, ("a", (3, 5))), mark(TWO_PIECES, ("a", (-4, 1)))],
                         [2, ("a", (1, 0)), ("a", (0, 0))])
        self.assertEqual(mark(spot=("b", (5, 5)), book=DOTS), ("a", (2, 4)))
        self.assertEqual(mark(TWO_CLASSES, ("d", (7, 8, 9))), ("b", (0, 0, 0)))
        self.assertEqual(mark(LINES, ("a", (BIG, -BIG))), ("a", (0, -BIG)))

    def test_neighbours_have_one_mark(self):
        for book in ALL + random_books(79):
            for spot in some_spots(book, 80):
                name, rest = mark(book, spot)
                self.assertEqual(name, next(members[0] for members in classes(book) if spot[0] in members))
                self.assertEqual(rounds_lattice(book, name).remainder(rest), rest)
                for near in neighbours(book, spot):
                    self.assertEqual(mark(book, near), (name, rest))
                    self.assertIs(hang_together(book, spot, near), True)
        for lattice_book in (TWO_PIECES, LINES, COMB):
            self.assertEqual(mark(lattice_book, ("a", (0, 0))), ("a", (0, 0)))

    def test_pieces_and_marks_on_a_torus(self):
        for book in [TWO_PIECES, COMB, SLANTED, CHAIN, FAR, DIAMOND, TWO_CLASSES] + random_books(81, 30):
            many = pieces(book)
            if many is None or many > 8:
                continue
            size = 1
            for members in classes(book):
                size = size * rounds_lattice(book, members[0]).cells
            if size > 12:
                continue
            parts = torus_parts(book, size)
            self.assertEqual(len(set(parts.values())), many)
            tops = {}
            for spot, top in parts.items():
                self.assertEqual(tops.setdefault(mark(book, spot), top), top)
            self.assertEqual(len(tops), many)

    def test_hang_together(self):
        self.assertIs(hang_together(TWO_PIECES, ("a", (0, 0)), ("a", (-BIG - 1, BIG))), True)
        self.assertIs(hang_together(TWO_PIECES, ("a", (0, 0)), ("a", (BIG, 0))), False)
        self.assertIs(hang_together(other=("b", (3, 1)), one=("a", (0, 0)), book=DOTS), True)
        self.assertIs(hang_together(DOTS, ("a", (0, 0)), ("b", (3, 2))), False)
        self.assertIs(hang_together(TWO_CLASSES, ("a", (0, 0, 0)), ("b", (0, 0, 0))), False)
        self.assertIs(hang_together(LONELY[0], ("a", (1,)), ("a", (1,))), True)
        self.assertIs(hang_together(LONELY[0], ("a", (1,)), ("a", (2,))), False)

    def test_unknown_spots(self):
        origin = ("a", (0, 0, 0))
        for value in ANY_VALUES + wrong_spots(CUBE):
            self.assertEqual(outcome(mark, CUBE, value), raised("UnknownSpot", spot=value))
            self.assertEqual(outcome(hang_together, CUBE, value, None), raised("UnknownSpot", spot=value))
            self.assertEqual(outcome(hang_together, CUBE, origin, value), raised("UnknownSpot", spot=value))


class PiecesTest(unittest.TestCase):
    def test_pieces(self):
        whole = [CHAIN, SQUARE, CUBE, COMB, DIAMOND, FAR]
        for book in whole:
            self.assertEqual(pieces(book), 1)
            self.assertIs(is_whole(book), True)
            self.assertIsNone(check_whole(book))
        endless = [*LONELY, LINES, DOTS, FINITE_PAIR, plain(1, "ab", [("a", "a", (1,))]),
                   plain(3, "a", [("a", "a", (1, 0, 0)), ("a", "a", (0, 1, 0)), ("a", "a", (5, 3, 0))])]
        for book in endless:
            self.assertIsNone(pieces(book))
            self.assertIs(is_whole(book), False)
            self.assertEqual(outcome(check_whole, book), raised("Falls", many=None))
        several = {2: TWO_PIECES, 13: TWO_CLASSES, 3: plain(1, "ab", [("a", "a", (1,)), ("b", "b", (2,))]),
                   BIG: plain(1, "a", [("a", "a", (BIG,))])}
        for many, book in several.items():
            self.assertEqual(pieces(book=book), many)
            self.assertIs(is_whole(book=book), False)
            self.assertEqual(outcome(check_whole, book=book), raised("Falls", many=many))

    def test_a_net_with_two_whole_classes(self):
        book = plain(1, "ab", [("a", "a", (1,)), ("b", "b", (1,))])
        self.assertEqual([pieces(book), is_whole(book)], [2, False])

    def test_either_end_and_any_order(self):
        for book in random_books(82):
            ties = [turned_by_hand(tie) for tie in book.ties()][::-1]
            same = Book(book.directions, book.places()[::-1], ties)
            self.assertEqual(pieces(same), pieces(book))
            for spot in some_spots(book, 83):
                self.assertEqual(mark(same, spot), mark(book, spot))


if __name__ == "__main__":
    unittest.main()
