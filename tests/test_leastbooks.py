"""Hidden shifts and least books ([20], [21])."""

import copy
import random
import unittest
from fractions import Fraction

from endlessnets.books import Book
from endlessnets.coarsebooks import CoarseBook
from endlessnets.classes import is_whole
from endlessnets.lattices import Lattice, sublattices
from endlessnets.leastbooks import LeastBook, candidates, check_least, hidden_shifts, is_least
from endlessnets.points import part, table_of
from endlessnets.resting import rest
from endlessnets.spots import is_spot, neighbours
from endlessnets.steadiness import is_steady
from endlessnets.trials import trial
from endlessnets.vectors import identity
from fractional import determinant, led, minus, numbers, pairs, plus
from samples import BEADS, COMB, CUBE, DIAMOND, HEXAGONAL, SKEW, SQUARE, STEADY, WIDE, plain, random_steady_books
from test_motions import random_motion
from test_spots import some_spots, wrong_spots
from test_trials import BAD
from tools import ANY_VALUES, gives_new, outcome, raised

QUARTER = CoarseBook(SQUARE, Lattice(2, [(2, 0), (0, 2)])).book
LEASTS = [SQUARE, CUBE, COMB, DIAMOND, HEXAGONAL, SKEW]


def coarse_books(seed, count=25):
    """Coarse books of least books, with their lattices, and told in another way."""
    chance = random.Random(seed)
    books = LEASTS + [book for book in random_steady_books(seed, 20) if is_least(book)]
    found = []
    while len(found) < count:
        book = chance.choice(books)
        lattice = chance.choice(list(sublattices(book.directions, chance.randint(1, 6))))
        coarse = CoarseBook(book, lattice).book
        found.append((book, lattice, random_motion(chance, coarse.names(), coarse.directions).carry(coarse)))
    return found


MANY = STEADY + [QUARTER] + [coarse for _, _, coarse in coarse_books(371)]


def is_hidden(book, shift):
    """Whether the movement by a point that is not whole leads the net onto itself; straight from the definition."""
    points = {name: numbers(point) for name, point in rest(book).items()}

    def moved(spot):
        point = plus(plus(points[spot[0]], spot[1]), numbers(shift))
        for name in points:
            vector = minus(point, points[name])
            if all(item.denominator == 1 for item in vector):
                return (name, tuple(int(item) for item in vector))
        return None
    for name in book.names():
        spot = (name, (0,) * book.directions)
        picture = moved(spot)
        if picture is None or book.kind(picture[0]) != book.kind(name):
            return False
        near = [moved(other) for other in neighbours(book, spot)]
        if None in near or sorted(near) != neighbours(book, picture):
            return False
    return True


class HiddenShiftTest(unittest.TestCase):
    def test_hidden_shifts(self):
        for book in MANY:
            found = hidden_shifts(book=book)
            wanted = sorted(part(point) for point in list(rest(book).values())[1:] if is_hidden(book, part(point)))
            self.assertEqual(found, wanted)
            self.assertIs(is_least(book=book), not found)
            self.assertEqual(outcome(check_least, book=book), raised("NotLeast", shift=found[0]) if found
                             else ("returned", None))
            gives_new(self, hidden_shifts, book)

    def test_of_coarse_books(self):
        sizes = set()
        for book, lattice, coarse in coarse_books(372, 40):
            self.assertEqual(len(hidden_shifts(coarse)), lattice.cells - 1)
            sizes.add(lattice.cells)
        self.assertEqual(sizes, {1, 2, 3, 4, 5, 6})

    def test_by_hand(self):
        self.assertEqual(hidden_shifts(WIDE), [((1, 2), (0, 1))])
        self.assertEqual(hidden_shifts(BEADS), [((1, 2),), ((1, 4),), ((3, 4),)])
        self.assertEqual(hidden_shifts(QUARTER), [((0, 1), (1, 2)), ((1, 2), (0, 1)), ((1, 2), (1, 2))])
        for book in LEASTS:
            self.assertEqual((hidden_shifts(book), is_least(book), check_least(book)), ([], True, None))
        self.assertEqual(outcome(check_least, BEADS), raised("NotLeast", shift=((1, 2),)))

    def test_kinds(self):
        painted = BEADS.with_kind("a", "x")
        self.assertEqual(hidden_shifts(painted), [])
        self.assertEqual(hidden_shifts(painted.with_kind("c", "x")), [((1, 2),)])
        self.assertEqual(hidden_shifts(WIDE.with_kind("ab", "other")), [])
        self.assertEqual(candidates(WIDE.with_kind("ab", "other")), [("ab", ((1, 2), (0, 1)), ("kind", "aa"))])
        self.assertEqual(LeastBook(painted.with_kind("c", "x")).book.places(), [("a", "x"), ("b", "node")])

    def test_candidates(self):
        breaks = set()
        for book in MANY + random_steady_books(373, 30):
            found = candidates(book=book)
            self.assertIsInstance(found, list)
            self.assertEqual([name for name, _, _ in found], book.names()[1:])
            for name, point, stop in found:
                self.assertEqual(point, part(rest(book)[name]))
                self.assertEqual(stop, trial(book, book, table_of(identity(book.directions)), point))
                self.assertEqual(stop is None, is_hidden(book, point))
                breaks.add((stop or ("none",))[0])
            gives_new(self, candidates, book)
        self.assertEqual(breaks, {"none", "place", "kind", "tie"})

    def test_first_of_all(self):
        for function in (hidden_shifts, candidates, is_least, check_least, LeastBook):
            for book, error in BAD:
                self.assertEqual(outcome(function, book), error)


class LeastBookTest(unittest.TestCase):
    def test_the_book(self):
        for book in MANY:
            least = LeastBook(book=book)
            shifts = hidden_shifts(book)
            self.assertEqual((least.factor, len(least), least.outer), (len(shifts) + 1, len(shifts) + 1, book))
            self.assertEqual(len(least.book) * least.factor, len(book))
            self.assertEqual(len(least.book.ties()) * least.factor, len(book.ties()))
            self.assertEqual((is_whole(least.book), is_steady(least.book), is_least(least.book)), (True,) * 3)
            self.assertEqual(repr(least), f"LeastBook({len(least.book)} of {len(book)} places)")
            self.assertEqual(least.book.directions, book.directions)

    def test_places(self):
        for book in MANY:
            points = {name: numbers(point) for name, point in rest(book).items()}
            shifts = [pairs((0,) * book.directions), *hidden_shifts(book)]
            firsts = {name: min(other for other in points if part(pairs(minus(points[name], points[other]))) in shifts)
                      for name in points}
            least = LeastBook(book)
            self.assertEqual(least.book.places(), [place for place in book.places() if firsts[place[0]] == place[0]])
            for name in points:
                self.assertEqual(least.to_least((name, (0,) * book.directions))[0], firsts[name])

    def test_basis(self):
        for book in MANY:
            table = tuple(numbers(row) for row in LeastBook(book).basis())
            self.assertIsInstance(LeastBook(book).basis(), tuple)
            shifts = [numbers(shift) for shift in hidden_shifts(book)]
            self.assertEqual(determinant(table), Fraction(1, len(shifts) + 1))
            size = book.directions
            scale = max([item.denominator for shift in shifts for item in shift], default=1)
            for vector in [*identity(size), *shifts]:
                left = vector
                for at in range(size):
                    many = left[at] / table[at][at]
                    self.assertEqual(many.denominator, 1)
                    left = minus(left, tuple(item * many for item in table[at]))
                self.assertFalse(any(left))
            for at in range(size):
                self.assertGreater(table[at][at], 0)
                self.assertFalse(any(table[at][:at]))
                self.assertTrue(all(0 <= row[at] < table[at][at] for row in table[:at]))
            self.assertTrue(all((item * scale ** 3).denominator == 1 for row in table for item in row))

    def test_spots(self):
        chance = random.Random(374)
        for book in MANY:
            least = LeastBook(book)
            points = {name: numbers(point) for name, point in rest(book).items()}
            table = tuple(numbers(row) for row in least.basis())
            for spot in some_spots(book, 375):
                fine = least.to_least(spot=spot)
                self.assertIs(is_spot(least.book, fine), True)
                self.assertEqual(plus(points[spot[0]], spot[1]), plus(points[fine[0]], led(fine[1], table)))
                self.assertEqual(least.to_outer(spot=fine), spot)
                self.assertEqual(book.kind(spot[0]), least.book.kind(fine[0]))
                self.assertEqual(sorted(least.to_least(near) for near in neighbours(book, spot)),
                                 neighbours(least.book, fine))
            for name in least.book.names():
                fine = (name, tuple(chance.randint(-10 ** 38, 10 ** 38) for _ in range(book.directions)))
                self.assertEqual(least.to_least(least.to_outer(fine)), fine)

    def test_by_hand(self):
        least = LeastBook(WIDE)
        self.assertEqual(least.basis(), (((1, 2), (0, 1)), ((0, 1), (1, 1))))
        self.assertEqual(least.book, Book(2, [("aa", "node")], [("aa", "aa", (1, 0)), ("aa", "aa", (0, 1))]))
        self.assertEqual((least.to_least(("ab", (3, 1))), least.to_outer(("aa", (-3, 2)))),
                         (("aa", (7, 1)), ("ab", (-2, 2))))
        self.assertEqual(repr(least), "LeastBook(1 of 2 places)")
        least = LeastBook(BEADS)
        self.assertEqual((least.book, least.basis()), (plain(1, "a", [("a", "a", (1,))]), (((1, 4),),)))
        for book in LEASTS:
            least = LeastBook(book)
            self.assertEqual((least.book, least.factor, least.basis()), (book, 1, table_of(identity(book.directions))))
            for spot in some_spots(book, 376):
                self.assertEqual((least.to_least(spot), least.to_outer(spot)), (spot, spot))
        slant = CoarseBook(SQUARE, Lattice(2, [(2, 1), (0, 2)])).book
        self.assertEqual(LeastBook(slant).basis(), (((1, 2), (1, 4)), ((0, 1), (1, 2))))

    def test_unknown_spots(self):
        least = LeastBook(WIDE)
        for value in ANY_VALUES + wrong_spots(WIDE) + [("aa", (0,)), ("a", (0, 0)), ("aa", (True, 0))]:
            self.assertEqual(outcome(least.to_least, value), raised("UnknownSpot", spot=value))
            self.assertEqual(outcome(least.to_outer, value), raised("UnknownSpot", spot=value))
        self.assertEqual(outcome(least.to_outer, ("ab", (0, 0))), raised("UnknownSpot", spot=("ab", (0, 0))))
        self.assertEqual(least.to_least(("ab", (0, 0))), ("aa", (1, 0)))

    def test_objects_stay(self):
        book = copy.deepcopy(WIDE)
        least = LeastBook(book)
        least.to_outer(least.to_least(("ab", (1, 1))))
        self.assertEqual((book.text(), least.outer), (WIDE.text(), WIDE))


if __name__ == "__main__":
    unittest.main()
