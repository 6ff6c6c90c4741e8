"""Crossed, split and clothed books ([37] to [39])."""

import itertools
import random
import unittest
from fractions import Fraction

from endlessnets.books import Book
from endlessnets.classes import is_whole, pieces
from endlessnets.keys import key
from endlessnets.making import clothed, crossed, split
from endlessnets.resting import resting_point
from endlessnets.samenesses import verdict
from endlessnets.shapes import pull_table
from endlessnets.spots import neighbours
from endlessnets.steadiness import is_steady
from endlessnets.words import list_name
from fractional import minus, numbers
from samples import ALL, BEADS, BOTH, CHAIN, COMB, CUBE, DIAMOND, HEXAGONAL, LADDER, LINES, LONELY, SKEW, SQUARE, TREE
from samples import TWINNED, TWO_PIECES, plain, random_books, random_whole_books
from test_motions import random_motion
from test_spots import near_by_hand, plus, some_spots
from tools import outcome, raised

ONES = [CHAIN, BEADS, LADDER, TREE, TWINNED, plain(1, "ab", [("a", "b", (0,)), ("a", "b", (3,)), ("b", "b", (2,))])]
TWOS = [SQUARE, COMB, HEXAGONAL, SKEW, TWO_PIECES, LINES]
NAMES = [one + other for one in "abc" for other in "abcdefghijklmnopqrstuvwxyz"]


def cycle(many, ties=None):
    """A whole book with so many places and as many ties, or with so many."""
    names = NAMES[:many]
    told = [(one, other, (0,)) for one, other in zip(names, names[1:])] + [(names[-1], names[0], (1,))]
    return plain(1, names, told + [("aa", "aa", (number,)) for number in range(2, 402)][:(ties or many) - many])


class CrossedTest(unittest.TestCase):
    def check(self, one, other):
        book = crossed(one, other)
        self.assertEqual(crossed(other=other, one=one), book)
        pairs = list(itertools.product(one.names(), other.names()))
        names = {pair: list_name(at) for at, pair in enumerate(pairs)}
        self.assertEqual(book.directions, one.directions + other.directions)
        self.assertEqual(book.places(), [(names[pair], f"[{one.kind(pair[0])},{other.kind(pair[1])}]") for pair in pairs])
        self.assertEqual(len(book.ties()), len(one) * len(other.ties()) + len(other) * len(one.ties()))
        for left, right in itertools.product(some_spots(one, 571)[::2], some_spots(other, 572)[::2]):
            spot = (names[(left[0], right[0])], left[1] + right[1])
            near = [(names[(step[0], right[0])], step[1] + right[1]) for step in near_by_hand(one, left)]
            near += [(names[(left[0], step[0])], left[1] + step[1]) for step in near_by_hand(other, right)]
            self.assertEqual(neighbours(book, spot), sorted(near))
        return book

    def test_spots(self):
        for one, other in itertools.product(ONES, ONES):
            self.check(one, other)
        for one, other in itertools.product(ONES, TWOS):
            self.check(one, other)
            self.check(other, one)
        for one, other in itertools.product([book for book in random_books(573, 30) if book.directions == 1], repeat=2):
            self.check(one, other)

    def test_facts(self):
        for one, other in itertools.product(ONES, [*ONES, SQUARE, COMB, SKEW]):
            book = crossed(one, other)
            self.assertIs(is_whole(book), True)
            self.assertIs(is_steady(book), is_steady(one) and is_steady(other))
            pulls = [numbers(row) for row in pull_table(book)]
            size = one.directions
            wanted = [tuple(item * len(other) for item in numbers(row)) + (0,) * other.directions
                      for row in pull_table(one)]
            wanted += [(0,) * size + tuple(item * len(one) for item in numbers(row)) for row in pull_table(other)]
            self.assertEqual(pulls, wanted)
            shifts = set()
            names = dict(zip(itertools.product(one.names(), other.names()), book.names()))
            for (left, right), name in names.items():
                alone = numbers(resting_point(one, (left, (0,) * size)))
                alone += numbers(resting_point(other, (right, (0,) * other.directions)))
                shifts.add(minus(numbers(resting_point(book, (name, (0,) * book.directions))), alone))
            self.assertEqual(len(shifts), 1)

    def test_known_nets(self):
        self.assertEqual(crossed(CHAIN, CHAIN), Book(2, [("aa", "[node,node]")], [
            ("aa", "aa", (1, 0)), ("aa", "aa", (0, 1))]))
        self.assertEqual(verdict(crossed(CHAIN, SQUARE).in_one_kind(), CUBE)[0], "same")
        self.assertEqual(verdict(crossed(SQUARE, CHAIN).in_one_kind(), CUBE)[0], "same")
        self.assertEqual(pieces(crossed(CHAIN, TWO_PIECES)), 2)
        self.assertIsNone(pieces(crossed(CHAIN, LINES)))
        self.assertEqual(crossed(CHAIN, cycle(30)).names()[25:28], ["az", "ba", "bb"])

    def test_too_many(self):
        self.assertEqual(len(crossed(cycle(8), cycle(8))), 64)
        self.assertEqual(outcome(crossed, cycle(5), cycle(13)), raised("TooMany", most=64))
        self.assertEqual(len(crossed(cycle(1, 399), cycle(1))), 1)
        self.assertEqual(len(crossed(cycle(1, 399), cycle(1)).ties()), 400)
        self.assertEqual(outcome(crossed, cycle(1, 400), cycle(1)), raised("TooMany", most=400))
        self.assertEqual(outcome(crossed, cycle(1), cycle(1, 400)), raised("TooMany", most=400))
        self.assertEqual(outcome(crossed, cycle(13, 400), cycle(5)), raised("TooMany", most=64))
        lengthy = CHAIN.with_kind("a", "x" * 1000)
        self.assertEqual(len(crossed(lengthy, CHAIN.with_kind("a", "y" * 997)).kind("aa")), 2000)
        self.assertEqual(outcome(crossed, lengthy, CHAIN.with_kind("a", "y" * 998)), raised("TooMany", most=2000))
        # Only one of the pairs has a kind that is too long.
        last = LADDER.with_kind("b", "x" * 1994)
        self.assertEqual(outcome(crossed, last, CHAIN), raised("TooMany", most=2000))
        self.assertEqual(outcome(crossed, last.with_kind("b", "x" * 1993), CHAIN)[0], "returned")
        self.assertEqual(outcome(crossed, cycle(1, 400).with_kind("aa", "x" * 2000), cycle(1)), raised("TooMany", most=400))
        self.assertEqual(outcome(crossed, cycle(64).with_kind("aa", "x" * 2000), cycle(2)), raised("TooMany", most=64))

    def test_directions(self):
        for one, other, many in ((SQUARE, SQUARE, 4), (CUBE, CHAIN, 4), (CHAIN, CUBE, 4), (CUBE, CUBE, 6), (CUBE, SQUARE, 5)):
            self.assertEqual(outcome(crossed, one, other), raised("InvalidDirections", value=many))
        self.assertEqual(outcome(crossed, CUBE, cycle(64, 400).with_kind("aa", "x" * 2000)),
                         raised("InvalidDirections", value=4))


class SplitTest(unittest.TestCase):
    def test_ties(self):
        for book in ALL + ONES + random_books(574, 25):
            found = split(book=book)
            old, many = book.names(), len(book)
            self.assertEqual(found.places(), [(list_name(at), kind) for at, (_, kind) in enumerate(book.places())]
                             + [(list_name(many + at), "mid") for at in range(len(book.ties()))])
            ties = []
            for at, (one, other, vector) in enumerate(book.ties()):
                middle = list_name(many + at)
                ties.append((list_name(old.index(one)), middle, (0,) * book.directions))
                ties.append((middle, list_name(old.index(other)), vector))
            self.assertEqual(found, Book(book.directions, found.places(), ties))

    def test_rest(self):
        for book in [*ONES, COMB, CUBE, DIAMOND, HEXAGONAL, SKEW, *random_whole_books(575, 20)]:
            found = split(book)
            self.assertEqual([numbers(row) for row in pull_table(found)],
                             [tuple(item / 2 for item in numbers(row)) for row in pull_table(book)])
            zero = (0,) * book.directions
            shift = {minus(numbers(resting_point(found, (list_name(at), zero))), numbers(resting_point(book, (name, zero))))
                     for at, name in enumerate(book.names())}
            self.assertEqual(len(shift), 1)
            for at, (one, other, vector) in enumerate(book.ties()):
                middle = numbers(resting_point(found, (list_name(len(book) + at), zero)))
                ends = plus(numbers(resting_point(book, (one, zero))), numbers(resting_point(book, (other, vector))))
                self.assertEqual(minus(middle, tuple(Fraction(item, 2) for item in ends)), list(shift)[0])

    def test_too_many(self):
        self.assertEqual(len(split(cycle(32))), 64)
        self.assertEqual(len(split(cycle(1, 63))), 64)
        self.assertEqual(outcome(split, cycle(1, 64)), raised("TooMany", most=64))
        self.assertEqual(outcome(split, cycle(33)), raised("TooMany", most=64))
        self.assertEqual(outcome(split, cycle(1, 400)), raised("TooMany", most=64))
        self.assertEqual(split(LONELY[1]), Book(2, [("aa", "node")]))


class ClothedTest(unittest.TestCase):
    def check(self, book):
        found = clothed(book)
        pairs = sorted((tie[0], (tie[1], tie[2])) for name in book.names() for tie in book.leaving(name))
        names = {pair: list_name(at) for at, pair in enumerate(pairs)}
        self.assertEqual(found.places(), [(names[pair], book.kind(pair[0])) for pair in pairs])
        self.assertEqual(found.directions, book.directions)
        for name in book.names():
            vector = (3, -7, 10 ** 39)[:book.directions]
            spots = near_by_hand(book, (name, vector))
            for near in spots:
                pair = (name, (near[0], tuple(b - a for a, b in zip(vector, near[1]))))
                back = (near[0], (name, tuple(a - b for a, b in zip(vector, near[1]))))
                wanted = [(names[(name, (other[0], tuple(b - a for a, b in zip(vector, other[1]))))], vector)
                          for other in spots if other != near] + [(names[back], near[1])]
                self.assertEqual(neighbours(found, (names[pair], vector)), sorted(wanted))
        self.assertEqual(clothed(book=book), found)
        return found

    def test_spots(self):
        tried = 0
        for book in ALL + ONES + TWOS + [BOTH] + random_books(576, 60):
            degrees = [book.degree(name) for name in book.names()]
            bare = [name for name in book.names() if book.degree(name) == 0]
            if bare:
                self.assertEqual(outcome(clothed, book), raised("Finite", name=bare[0]))
            elif sum(degrees) <= 64 and len(book.ties()) + sum(many * (many - 1) // 2 for many in degrees) <= 400:
                found = self.check(book)
                self.assertEqual(pieces(found), pieces(book))
                self.assertIs(is_whole(found), is_whole(book))
                tried += 1
        self.assertGreater(tried, 25)

    def test_kept(self):
        chance = random.Random(577)
        for book in (CHAIN, SQUARE, COMB, DIAMOND, SKEW):
            other = random_motion(chance, book.names(), book.directions).carry(book)
            self.assertEqual(outcome(key, clothed(other)), outcome(key, clothed(book)))
        self.assertEqual(clothed(CHAIN).ties(), [("aa", "ab", (-1,)), ("aa", "ab", (0,))])

    def test_bounds(self):
        self.assertEqual(len(clothed(cycle(32))), 64)
        self.assertEqual(outcome(clothed, cycle(33)), raised("TooMany", most=64))
        # One place with 14 loops has 28 neighbours: 14 + 378 ties.
        loops = cycle(1, 14)
        self.assertEqual(len(clothed(loops).ties()), 392)
        self.assertEqual(outcome(clothed, cycle(1, 15)), raised("TooMany", most=400))
        # Two places with 28 and 4 neighbours: 16 + 378 + 6 ties.
        even = plain(1, "ab", [("a", "a", (number,)) for number in range(1, 13)]
                     + [("a", "b", (number,)) for number in range(4)])
        self.assertEqual(len(clothed(even).ties()), 400)
        self.assertEqual(outcome(clothed, even.with_tie(("b", "b", (1,)))), raised("TooMany", most=400))
        self.assertEqual(outcome(clothed, cycle(1, 33)), raised("TooMany", most=64))
        self.assertEqual(outcome(clothed, cycle(1, 32)), raised("TooMany", most=400))
        self.assertEqual(outcome(clothed, cycle(64, 400)), raised("TooMany", most=64))

    def test_finite(self):
        self.assertEqual(outcome(clothed, LONELY[0]), raised("Finite", name="a"))
        book = cycle(40).with_place("zz").with_place("d").with_place("e")
        self.assertEqual(outcome(clothed, book), raised("Finite", name="d"))
        self.assertEqual(outcome(clothed, cycle(1, 40).with_place("zz")), raised("Finite", name="zz"))


if __name__ == "__main__":
    unittest.main()
