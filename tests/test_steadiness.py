"""Clashes, dead ends, loose places and twins ([16] to [18])."""

import itertools
import random
import unittest

from endlessnets.books import Book
from endlessnets.resting import resting_point, rest
from endlessnets.spots import are_joined, neighbours, shifted
from endlessnets.steadiness import check_steady, clash, dead_ends, is_steady, loose, twins
from fractional import minus, numbers
from samples import BEADS, COMB, DIAMOND, FALLING, LADDER, SQUARE, STEADY, TREE, TWINNED, WHOLE, plain
from samples import random_steady_books, random_whole_books
from test_motions import random_motion
from tools import falls_first, gives_new, outcome, raised

# The spots (b, 1) and (c, 0) rest at one point, and (a, 0) and (d, -2) do; the ties are no twins' ties.
CLASHES = plain(1, "abcd", [("a", "b", (0,)), ("b", "c", (0,)), ("c", "d", (0,)), ("a", "c", (3,)), ("b", "d", (1,)),
                            ("a", "a", (1,))])
HANGING = Book(2, [(name, "node") for name in "abcdefgh"],
               [("h", "h", (1, 0)), ("h", "h", (0, 1)), ("h", "a", (0, 0)), ("a", "b", (2, 0)), ("b", "c", (0, 0)),
                ("b", "d", (0, 0)), ("e", "d", (1, 1)), ("f", "h", (1, 1)), ("g", "a", (5, 5))])
THREES = Book(2, [(name, "x") for name in "abcdef"],
              [("a", "b", (0, 0)), ("a", "b", (1, 0)), ("a", "b", (0, 1)), ("c", "b", (1, 1)), ("c", "b", (2, 1)),
               ("c", "b", (1, 2)), ("d", "b", (-2, 0)), ("d", "b", (-1, 0)), ("d", "b", (-2, 1)),
               ("e", "b", (0, 0)), ("e", "b", (5, 5)), ("f", "b", (0, 1)), ("f", "b", (5, 6))])
BOOKS = WHOLE + [HANGING, THREES, CLASHES] + random_whole_books(340, 60)


def leaves(chance, book, many):
    """The book with so many more places, each joined with one place."""
    for name in "uvwxyz"[:many]:
        host = chance.choice(book.names())
        vector = tuple(chance.randint(-3, 3) for _ in range(book.directions))
        book = book.with_place(name).with_tie((name, host, vector))
    return book


def clash_by_hand(book):
    zero = (0,) * book.directions
    points = {name: numbers(point) for name, point in rest(book).items()}
    for one, other in itertools.combinations(book.names(), 2):
        vector = minus(points[one], points[other])
        if all(item.denominator == 1 for item in vector):
            return ((one, zero), (other, tuple(int(item) for item in vector)))
    return None


def loose_by_hand(book):
    found = []
    while True:
        ends = [name for name in book.names() if book.degree(name) == 1]
        if not ends:
            return sorted(found)
        for name in ends:
            book = book.without_place(name)
        found += ends


def twins_by_hand(book):
    found = {}
    for name in book.names():
        spot = (name, (0,) * book.directions)
        near = neighbours(book, spot)
        others = {other for other in neighbours(book, near[0]) if neighbours(book, other) == near}
        if len(others) > 1:
            first = min(others)
            back = tuple(-number for number in first[1])
            found[first[0]] = sorted(shifted(other, back) for other in others)
    return sorted(found.values())


class ClashTest(unittest.TestCase):
    def test_clash(self):
        for book in BOOKS:
            found = clash(book=book)
            self.assertEqual(found, clash_by_hand(book))
            self.assertIs(is_steady(book=book), found is None)
            if found is None:
                self.assertIsNone(check_steady(book=book))
            else:
                one, other = found
                self.assertEqual(resting_point(book, one), resting_point(book, other))
                self.assertEqual(outcome(check_steady, book), raised("Unsteady", one=one, other=other))

    def test_by_hand(self):
        self.assertEqual(clash(LADDER), (("a", (0,)), ("b", (0,))))
        for book in STEADY:
            self.assertEqual((clash(book), is_steady(book), check_steady(book)), (None, True, None))
        self.assertEqual(clash(TWINNED), (("b", (0,)), ("c", (5,))))
        self.assertIs(is_steady(TWINNED), False)
        moved = plain(2, "abc", [("a", "a", (1, 0)), ("a", "a", (0, 1)), ("c", "a", (7, -2)), ("b", "c", (1, 1))])
        self.assertEqual(clash(moved), (("a", (0, 0)), ("b", (-8, 1))))
        only_later = plain(1, "abcd", [("a", "b", (0,)), ("b", "a", (1,)), ("a", "c", (4,)), ("d", "a", (-3,)),
                                       ("c", "a", (-3,)), ("a", "d", (4,))])
        self.assertEqual(clash(only_later), (("b", (0,)), ("c", (4,))))

    def test_carried(self):
        chance = random.Random(341)
        for book in random_steady_books(342) + STEADY:
            motion = random_motion(chance, book.names(), book.directions)
            self.assertIs(is_steady(motion.carry(book)), True)

    def test_first_of_all(self):
        for function in (clash, is_steady, check_steady, dead_ends, loose, twins):
            falls_first(self, function, falling=FALLING)


class LooseTest(unittest.TestCase):
    def test_dead_ends(self):
        chance = random.Random(343)
        for book in BOOKS + [leaves(chance, book, 4) for book in BOOKS]:
            self.assertEqual(dead_ends(book=book), [name for name in book.names() if len(neighbours(
                book, (name, (0,) * book.directions))) == 1])
            self.assertEqual(loose(book=book), loose_by_hand(book))
        self.assertEqual([dead_ends(book) for book in (TREE, HANGING, SQUARE, LADDER)],
                         [["c", "d", "e"], ["c", "e", "f", "g"], [], []])
        self.assertEqual([loose(book) for book in (TREE, HANGING, SQUARE, LADDER)],
                         [["b", "c", "d", "e"], ["a", "b", "c", "d", "e", "f", "g"], [], []])
        gives_new(self, dead_ends, HANGING)
        gives_new(self, loose, HANGING)


class TwinsTest(unittest.TestCase):
    def test_twins(self):
        chance = random.Random(344)
        for book in BOOKS + [leaves(chance, book, 5) for book in BOOKS]:
            found = twins(book=book)
            self.assertEqual(found, twins_by_hand(book))
            for spots in found:
                self.assertIsInstance(spots, list)
                for one, other in itertools.combinations(spots, 2):
                    self.assertEqual(neighbours(book, one), neighbours(book, other))
                    self.assertIs(are_joined(book, one, other), False)

    def test_by_hand(self):
        self.assertEqual(twins(THREES), [[("a", (0, 0)), ("c", (-1, -1)), ("d", (2, 0))],
                                         [("e", (0, 0)), ("f", (0, -1))]])
        self.assertEqual(twins(TREE), [[("c", (0,)), ("d", (-1,))]])
        self.assertEqual(twins(TWINNED), [[("b", (0,)), ("c", (5,)), ("d", (-2,))]])
        # In these nets every second spot has the same neighbours, though no place stands alone.
        both = plain(1, "abcd", [("a", "c", (0,)), ("a", "d", (1,)), ("b", "c", (2,)), ("b", "d", (3,)),
                                 ("c", "a", (1,)), ("d", "a", (0,)), ("c", "b", (-1,)), ("d", "b", (-2,))])
        self.assertEqual(twins(both), [[("a", (0,)), ("b", (-2,))], [("c", (0,)), ("d", (1,))]])
        for book in (SQUARE, COMB, DIAMOND, BEADS, LADDER):
            self.assertEqual(twins(book), [])
        gives_new(self, twins, THREES)


if __name__ == "__main__":
    unittest.main()
