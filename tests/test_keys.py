"""Portraits and keys ([28])."""

import random
import unittest
from fractions import Fraction
from math import floor, lcm

from endlessnets.books import Book
from endlessnets.coarsebooks import CoarseBook
from endlessnets.frames import least_frames, steps
from endlessnets.keys import key, portrait, settled_key
from endlessnets.lattices import Lattice, hermite
from endlessnets.leastbooks import LeastBook, is_least
from endlessnets.motions import Motion
from endlessnets.resting import rest
from endlessnets.samenesses import verdict
from endlessnets.settling import restored, settled
from endlessnets.steadiness import clash
from fractional import determinant, led, minus, numbers, pairs, steps_of
from samples import BEADS, CHAIN, COMB, CUBE, DIAMOND, FALLING, HEXAGONAL, LADDER, SKEW, SQUARE, STEADY, TREE, TWINNED
from samples import TWO_PIECES, WIDE, plain, random_steady_books
from test_leastbooks import LEASTS, coarse_books
from test_motions import random_motion
from test_samenesses import NOT_LEAST
from test_settling import grown
from test_trials import BAD
from tools import ANY_VALUES, falls_first, gives_new, outcome, raised

MORE = [CHAIN, *LEASTS, *[book for book in random_steady_books(501, 25) if is_least(book)]]


def inverse_by_hand(rows):
    """The inverse of a table, by Cramer's rule."""
    size = len(rows)
    whole = determinant(rows)
    units = [tuple(Fraction(int(at == other)) for other in range(size)) for at in range(size)]
    return tuple(tuple(determinant(rows[:column] + (units[row],) + rows[column + 1:]) / whole for column in range(size))
                 for row in range(size))


def reduced_by_hand(point, basis):
    """The remainder rule of [4], for a basis with a row for each direction."""
    for at, row in enumerate(basis):
        times = floor(point[at] / row[at])
        point = minus(point, tuple(times * item for item in row))
    return point


def portrait_by_hand(book, name, frame):
    points = {place: numbers(point) for place, point in rest(book).items()}
    inverse = inverse_by_hand(tuple(numbers(step) for step in frame))
    scale = lcm(*[item.denominator for row in inverse for item in row])
    rows = hermite([tuple(int(item * scale) for item in row) for row in inverse], book.directions)
    basis = [tuple(Fraction(item, scale) for item in row) for row in rows]
    told = steps_of(book, points)
    looks = []
    for place in book.names():
        point = reduced_by_hand(led(minus(points[place], points[name]), inverse), basis)
        ways = sorted(pairs(led(told[tie], inverse)) for tie in book.leaving(place))
        looks.append((pairs(point), book.kind(place), tuple(ways)))
    return (tuple(pairs(row) for row in basis), tuple(sorted(looks)))


def key_by_hand(book):
    return min(portrait_by_hand(book, name, frame) for name in book.names() for frame in least_frames(book))


class PortraitTest(unittest.TestCase):
    def test_portraits(self):
        chance = random.Random(502)
        for book in MORE:
            told = [(name, frame) for name in book.names() for frame in least_frames(book)]
            for name, frame in chance.sample(told, min(8, len(told))):
                found = portrait(book, name, frame)
                self.assertEqual(found, portrait_by_hand(book, name, frame))
                self.assertEqual(portrait(frame=frame, name=name, book=book), found)
        painted = Book(2, [("a", "x"), ("b", "y")], COMB.ties())
        for name in "ab":
            for frame in least_frames(painted):
                self.assertEqual(portrait(painted, name, frame), portrait_by_hand(painted, name, frame))

    def test_by_hand(self):
        frame = (((1, 1), (0, 1)), ((0, 1), (-1, 1)))
        units = (((1, 1), (0, 1)), ((0, 1), (1, 1)))
        ways = (((-1, 1), (0, 1)), ((0, 1), (-1, 1)), ((0, 1), (1, 1)), ((1, 1), (0, 1)))
        self.assertEqual(portrait(SQUARE, "a", frame), (units, ((((0, 1), (0, 1)), "node", ways),)))
        basis, looks = portrait(DIAMOND, "b", least_frames(DIAMOND)[5])
        self.assertEqual(len(looks), 2)
        self.assertEqual(looks[0][0], ((0, 1), (0, 1), (0, 1)))
        self.assertEqual(len(basis), 3)

    def test_frames_that_are_none(self):
        frames = least_frames(COMB)
        for value in ANY_VALUES + [list(frames[0]), frames[0][:1], (*frames[0], frames[0][0]), frames,
                                   tuple(list(row) for row in frames[0]), frames[0][::-1] + frames[0]]:
            self.assertEqual(outcome(portrait, COMB, "a", value), raised("Misfit"), value)
        net = plain(2, "a", [("a", "a", (1, 0)), ("a", "a", (0, 1)), ("a", "a", (2, 1))])
        least = least_frames(net)
        for one in steps(net):
            for other in steps(net):
                found = outcome(portrait, net, "a", (one, other))
                self.assertEqual(found[0], "returned" if (one, other) in least else "Misfit")
        self.assertEqual(outcome(portrait, CHAIN, "a", (((True, 1),),)), raised("Misfit"))
        self.assertEqual(outcome(portrait, CHAIN, "a", (((1, True),),)), raised("Misfit"))
        self.assertEqual(outcome(portrait, CHAIN, "a", (((1, 1),),))[0], "returned")

    def test_errors_in_order(self):
        falls_first(self, portrait, None, None, falling=FALLING)
        for book, error in BAD + NOT_LEAST:
            self.assertEqual(outcome(portrait, book, "zz", None), error)
        for value in ANY_VALUES:
            if value != "a":
                self.assertEqual(outcome(portrait, SQUARE, value, None), raised("UnknownName", name=value))
        self.assertEqual(outcome(portrait, SQUARE, "a", None), raised("Misfit"))


class KeyTest(unittest.TestCase):
    def test_least_of_all(self):
        for book in MORE:
            self.assertEqual(key(book=book), key_by_hand(book))
            self.assertEqual(key(book), key(book))
        for book in random_steady_books(503, 25):
            self.assertEqual(key(book), key_by_hand(LeastBook(book).book))

    def test_the_example(self):
        self.assertEqual(key(CHAIN), ((((1, 1),),), ((((0, 1),), "node", (((-1, 1),), ((1, 1),))),)))

    def test_told_otherwise(self):
        chance = random.Random(504)
        for book, _, coarse in coarse_books(505, 40):
            found = key(book)
            self.assertEqual(key(coarse), found)
            self.assertEqual(key(LeastBook(coarse).book), found)
            renamed = random_motion(chance, book.names(), book.directions, ["u", "v", "w", "x", "y", "z"][:len(book)])
            self.assertEqual(key(renamed.carry(book)), found)
        self.assertEqual(key(WIDE), key(SQUARE))
        self.assertEqual(key(BEADS), key(CHAIN))

    def test_other_nets(self):
        books = [*STEADY, *random_steady_books(506, 30)]
        keys = [key(book) for book in books]
        for one, told in zip(books, keys):
            for other, told_too in zip(books, keys):
                self.assertEqual(told == told_too, verdict(one, other)[0] == "same")
            painted = one.with_kind(one.names()[0], "other")
            self.assertNotEqual(key(painted), told)
        self.assertNotEqual(key(SQUARE), key(HEXAGONAL))
        self.assertNotEqual(key(SQUARE.with_tie(("a", "a", (3, 1)))), key(SQUARE))
        self.assertNotEqual(key(HEXAGONAL.without(("a", "a", (1, 1)))), key(HEXAGONAL))
        self.assertEqual(key(HEXAGONAL.without(("a", "a", (1, 1)))), key(SQUARE))
        # The kinds of the places count, not only how many there are of each.
        kinds = [("a", "x"), ("b", "x"), ("c", "y")]
        other = [("a", "y"), ("b", "x"), ("c", "x")]
        self.assertNotEqual(key(Book(2, kinds, SKEW.ties())), key(Book(2, other, SKEW.ties())))

    def test_errors(self):
        falls_first(self, key, falling=FALLING)
        for book, error in BAD:
            self.assertEqual(outcome(key, book), error)


class SettledKeyTest(unittest.TestCase):
    def test_settled(self):
        chance = random.Random(507)
        for book in [TREE, TWINNED, COMB, DIAMOND, WIDE]:
            self.assertEqual(settled_key(book), key(settled(book)))
            motion = random_motion(chance, book.names(), book.directions)
            self.assertEqual(settled_key(book=motion.carry(book)), settled_key(book))
        for book in random_steady_books(508, 15):
            more = grown(chance, book.in_one_kind(), 4)
            again = restored(settled(more))
            found = outcome(settled_key, more)
            self.assertEqual(found, outcome(key, settled(more)))
            if found[0] == "returned":
                self.assertEqual(settled_key(again), found[1])
        self.assertNotEqual(settled_key(TREE), settled_key(TREE.with_kind("c", "other")))
        self.assertNotEqual(settled_key(TREE), settled_key(CHAIN))

    def test_errors(self):
        falls_first(self, settled_key, falling=FALLING)
        self.assertEqual(outcome(settled_key, TWO_PIECES), raised("Falls", many=2))
        lengthy = plain(1, "ab", [("a", "a", (1,)), ("a", "b", (0,))]).with_kind("b", "x" * 1994)
        self.assertEqual(outcome(settled_key, lengthy)[0], "returned")
        self.assertEqual(outcome(settled_key, lengthy.with_kind("b", "x" * 1995)), raised("TooMany", most=2000))
        # The clash is that of the settled book: the dead end b, which rests where a does, is gone.
        hung = LADDER.with_place("aa", "leaf").with_tie(("a", "aa", (0,)))
        self.assertEqual(clash(hung)[1][0], "aa")
        one, other = clash(settled(hung))
        self.assertEqual((one, other), (("a", (0,)), ("b", (0,))))
        self.assertEqual(outcome(settled_key, hung), raised("Unsteady", one=one, other=other))
        # TooMany comes ahead of Unsteady.
        self.assertEqual(outcome(settled_key, hung.with_kind("aa", "x" * 2000)), raised("TooMany", most=2000))

    def test_large_books(self):
        wide = CoarseBook(DIAMOND, Lattice(3, [(2, 0, 0), (0, 4, 0), (0, 0, 4)])).book
        self.assertEqual(key(wide), key(DIAMOND))
        self.assertEqual(key(CUBE), key(CoarseBook(CUBE, Lattice(3, [(4, 1, 0), (0, 4, 1), (0, 0, 4)])).book))
        shifted = Motion.shifting(CUBE, (7, 8, 9)).carry(CUBE)
        gives_new(self, key, shifted)


if __name__ == "__main__":
    unittest.main()
