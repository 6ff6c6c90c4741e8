"""Trials, their breaks and pictures ([24])."""

import itertools
import random
import unittest
from fractions import Fraction

from endlessnets.books import Book
from endlessnets.coarsebooks import CoarseBook
from endlessnets.lattices import sublattices
from endlessnets.points import point_of, table_of
from endlessnets.resting import rest
from endlessnets.spots import are_joined
from endlessnets.steadiness import clash
from endlessnets.trials import pictures, trial
from endlessnets.vectors import identity
from fractional import determinant, led, minus, numbers, pairs, plus
from samples import COMB, CUBE, FALLING, LADDER, SKEW, SQUARE, STEADY, TREE, TWO_PIECES, WIDE, plain, random_steady_books
from test_motions import random_motion
from test_shapes import NO_POINTS
from tools import ANY_VALUES, gives_new, outcome, raised

ONE = table_of(identity(2))
HERE = ((0, 1), (0, 1))
NO_TABLES = ANY_VALUES + [(((1, 1),),), ((1, 0), (0, 1)), [((1, 1), (0, 1)), ((0, 1), (1, 1))],
                          (((1, 1), (0, 1)),), (((1, 1), (0, 1)), ((0, 1), (2, 2))), (((1, 1), (0, 1)), [(0, 1), (1, 1)]),
                          (((1, 1), (0, 1)), ((0, 1), (1, True))), (*ONE, ONE[0]), (((1, 1), (0, 1)), None),
                          (((1, 1), (0, 1)), ((0, 1), (1, 1), (0, 1)))]
BAD = [(book, raised("Falls", many=many)) for book, many in FALLING[:3]] + [
    (book, raised("Unsteady", one=clash(book)[0], other=clash(book)[1])) for book in (LADDER, TREE)]


def pairs_raise(test, function, bad, good, *more, **named):
    """The errors of the first book come ahead of those of the second one, and both ahead of all others."""
    for book, error in bad:
        for other in [good, *[worse for worse, _ in bad]]:
            test.assertEqual(outcome(function, book, other, *more, **named), error)
        test.assertEqual(outcome(function, good, book, *more, **named), error)


def spot_by_hand(book, point):
    """The spot of a steady book that rests at a point of Python's fractions, None if there is none."""
    for name, found in rest(book).items():
        vector = minus(point, numbers(found))
        if all(item.denominator == 1 for item in vector):
            return (name, tuple(int(item) for item in vector))
    return None


def pictures_by_hand(one, other, table, point):
    rows = tuple(numbers(row) for row in table)
    return {name: spot_by_hand(other, plus(led(numbers(found), rows), numbers(point)))
            for name, found in rest(one).items()}


def break_by_hand(one, other, table, point):
    rows = tuple(numbers(row) for row in table)
    if any(item.denominator > 1 for row in rows for item in row) or determinant(rows) not in (1, -1):
        return ("table",)
    found = pictures_by_hand(one, other, table, point)
    for name in one.names():
        if found[name] is None:
            return ("place", name)
        if one.kind(name) != other.kind(found[name][0]):
            return ("kind", name)
    for tie in one.ties():
        moved = tuple(int(item) for item in led(tie[2], rows))
        if not are_joined(other, found[tie[0]], (found[tie[1]][0], plus(found[tie[1]][1], moved))):
            return ("tie", tie)
    return None


class TrialTest(unittest.TestCase):
    def check(self, one, other, table, point):
        found = trial(one, other, table, point)
        self.assertEqual(found, break_by_hand(one, other, table, point))
        self.assertEqual(trial(point=point, table=table, other=other, one=one), found)
        self.assertEqual(pictures(one, other, table, point), pictures_by_hand(one, other, table, point))
        self.assertEqual(list(pictures(point=point, table=table, other=other, one=one)), one.names())
        return found

    def test_any_trials(self):
        chance = random.Random(361)
        breaks = []
        by_size = {size: [book for book in STEADY + random_steady_books(362, 40) if book.directions == size]
                   for size in (1, 2, 3)}
        for size, books in by_size.items():
            for _ in range(80):
                one, other = chance.choice(books), chance.choice(books)
                rows = tuple(tuple(chance.choice((-1, 0, 0, 1, 1, 2)) for _ in range(size)) for _ in range(size))
                table = table_of(rows) if chance.randint(0, 3) else table_of(identity(size))
                if chance.randint(0, 5) == 0:
                    table = (pairs([Fraction(1, 2)] * size), *table[1:])
                spot = chance.choice(list(rest(other).values()))
                point = spot if chance.randint(0, 3) else pairs([Fraction(chance.randint(0, 6), 3)] * size)
                breaks.append((self.check(one, other, table, point) or ("none",))[0])
        for word in ("table", "place", "kind", "tie"):
            self.assertGreater(breaks.count(word), 5, word)

    def test_right_trials(self):
        chance = random.Random(363)
        for book in STEADY + random_steady_books(364, 20):
            motion = random_motion(chance, book.names(), book.directions)
            other = motion.carry(book)
            first = motion.lead((book.names()[0], (0,) * book.directions))
            point = pairs(plus(numbers(rest(other)[first[0]]), first[1]))
            self.assertIsNone(self.check(book, other, table_of(motion.matrix()), point))
            self.assertEqual(pictures(book, other, table_of(motion.matrix()), point), motion.pictures())
            # Away from its point the motion breaks, unless the table leads to a hidden shift.
            beside = pairs(plus(numbers(point), (Fraction(1, 10 ** 6),) * book.directions))
            self.assertEqual(self.check(book, other, table_of(motion.matrix()), beside), ("place", book.names()[0]))

    def test_tables(self):
        for table in ((((1, 2), (0, 1)), ((0, 1), (2, 1))), (((2, 1), (0, 1)), ((0, 1), (1, 1))),
                      (((0, 1), (0, 1)), ((0, 1), (0, 1))), (((1, 1), (1, 1)), ((1, 1), (1, 1))),
                      (((1, 2), (0, 1)), ((0, 1), (1, 1)))):
            self.assertEqual(self.check(SQUARE, COMB, table, ((1, 7), (0, 1))), ("table",))
        self.assertEqual(self.check(SQUARE, SQUARE, (((-1, 1), (5, 1)), ((0, 1), (1, 1))), HERE),
                         ("tie", ("a", "a", (1, 0))))
        # A table that is not unimodular can lead all spots to spots.
        self.assertEqual(pictures(SQUARE, SQUARE, (((2, 1), (0, 1)), ((0, 1), (0, 1))), ((3, 1), (1, 1))),
                         {"a": ("a", (3, 1))})

    def test_the_order_of_breaks(self):
        one = Book(2, [("a", "x"), ("b", "y")], COMB.ties())
        other = Book(2, [("a", "x"), ("b", "z")], COMB.ties())
        self.assertEqual(self.check(one, other, ONE, HERE), ("kind", "b"))
        self.assertEqual(self.check(one, other, ONE, ((1, 3), (0, 1))), ("place", "a"))
        self.assertEqual(self.check(one, one, ONE, ((-1, 3), (-1, 3))), ("kind", "a"))
        self.assertEqual(self.check(COMB, COMB, ONE, ((-1, 3), (-1, 3))), ("place", "b"))
        self.assertEqual(self.check(COMB, COMB, (((-1, 1), (0, 1)), ((0, 1), (-1, 1))), ((-1, 3), (-1, 3))), None)
        # A wrong kind at an earlier place comes ahead of no place at a later one, and behind one ahead of it.
        kinds = Book(2, [("a", "y"), ("b", "x")], COMB.ties())
        self.assertEqual(self.check(one, kinds, ONE, ((-1, 3), (-1, 3))), ("place", "b"))
        self.assertEqual(self.check(one, COMB, ONE, ((-1, 3), (-1, 3))), ("kind", "a"))
        cut = SQUARE.without(("a", "a", (0, 1))).with_tie(("a", "a", (1, 2)))
        self.assertEqual(outcome(trial, SQUARE, cut, ONE, HERE), raised("Falls", many=2))
        twisted = SQUARE.without(("a", "a", (0, 1))).with_tie(("a", "a", (1, 1)))
        self.assertEqual(self.check(SQUARE, twisted, ONE, HERE), ("tie", ("a", "a", (0, 1))))
        self.assertEqual(self.check(plain(2, "a", [("a", "a", (0, 1)), ("a", "a", (1, -1))]), twisted, ONE, HERE),
                         ("tie", ("a", "a", (0, 1))))

    def test_movements(self):
        self.assertIsNone(self.check(WIDE, WIDE, ONE, ((1, 2), (0, 1))))
        self.assertIsNone(self.check(WIDE, WIDE, ONE, ((-7, 2), (3, 1))))
        self.assertIsNone(self.check(WIDE, WIDE, ONE, ((5, 1), (-2, 1))))
        self.assertEqual(self.check(WIDE, WIDE, ONE, ((1, 4), (0, 1))), ("place", "aa"))
        self.assertEqual(pictures(WIDE, WIDE, ONE, ((1, 4), (0, 1))), {"aa": None, "ab": None})
        self.assertEqual(pictures(WIDE, WIDE, ONE, ((1, 2), (3, 1))), {"aa": ("ab", (0, 3)), "ab": ("aa", (1, 3))})
        painted = WIDE.with_kind("ab", "other")
        self.assertEqual(self.check(painted, painted, ONE, ((1, 2), (0, 1))), ("kind", "aa"))
        for lattice in sublattices(2, 3):
            coarse = CoarseBook(COMB, lattice).book
            for name, point in rest(coarse).items():
                self.assertEqual(self.check(coarse, coarse, ONE, point) is None, name in ("aa", "ab", "ac"))

    def test_new_dicts(self):
        gives_new(self, pictures, COMB, COMB, ONE, HERE)


class ErrorTest(unittest.TestCase):
    def test_books_first(self):
        for function in (trial, pictures):
            pairs_raise(self, function, BAD, SQUARE, None, None)
            pairs_raise(self, function, BAD, CUBE, ONE, HERE)

    def test_misfit(self):
        for function in (trial, pictures):
            for one, other in itertools.permutations((SQUARE, CUBE, COMB), 2):
                if one.directions != other.directions:
                    self.assertEqual(outcome(function, one, other, ONE, HERE), raised("Misfit"))
                    self.assertEqual(outcome(function, one, other, None, None), raised("Misfit"))

    def test_tables_and_points(self):
        for function in (trial, pictures):
            for value in NO_TABLES:
                for point in (HERE, None, ((1, 2),)):
                    self.assertEqual(outcome(function, SQUARE, COMB, value, point), raised("InvalidMatrix"), value)
            for value in NO_POINTS + [((0, 1), (0, 1), (0, 1)), point_of((0,)), (0, 0)]:
                self.assertEqual(outcome(function, SQUARE, SKEW, ONE, value), raised("InvalidVector", at=0), value)
            self.assertEqual(outcome(function, CUBE, CUBE, ONE, HERE), raised("InvalidMatrix"))
            self.assertEqual(outcome(function, SQUARE, TWO_PIECES, ONE, HERE), raised("Falls", many=2))


if __name__ == "__main__":
    unittest.main()
