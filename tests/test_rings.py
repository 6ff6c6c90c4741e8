"""Rings and ring numbers ([34])."""

import random
import unittest

from endlessnets.books import standard
from endlessnets.coarsebooks import CoarseBook
from endlessnets.lattices import sublattices
from endlessnets.ownbooks import OwnBook
from endlessnets.rings import ring_number, ring_numbers
from samples import ALL, BOTH, CHAIN, COMB, CUBE, DIAMOND, DOTS, HEXAGONAL, LADDER, LONELY, SKEW, SQUARE, TREE, TWINNED
from samples import TWO_CLASSES, WIDE, plain, random_books, turned_by_hand
from test_motions import random_motion
from test_spots import near_by_hand
from test_turns import KAGOME
from tools import ANY_VALUES, gives_new, outcome, raised

# One round of n places and a way on from it: a net with rings of this length alone.
ROUNDS = {many: plain(1, "abcdefghijklmnopq"[:many], [
    *[(one, other, (0,)) for one, other in zip("abcdefghijklmnopq"[:many], "bcdefghijklmnopq"[:many - 1])],
    ("abcdefghijklmnopq"[many - 1], "a", (0,)), ("a", "a", (1,))]) for many in range(3, 18)}
BOOKS = [*ALL, LADDER, BOTH, TREE, TWINNED, SKEW, WIDE, HEXAGONAL, KAGOME, *random_books(541, 25)]
WRONG = [value for value in ANY_VALUES if type(value) is not int] + [2, 17, 0, -3, 10 ** 39, True, 8.0, "8"]


def ring_by_hand(book, tie, most):
    """The least length of a way from one end of a join to the other one without it, and of the join."""
    one, other = (tie[0], (0,) * book.directions), (tie[1], tie[2])
    depths, edge = {one: 0}, [one]
    for depth in range(1, most):
        after = []
        for spot in edge:
            for near in near_by_hand(book, spot):
                if near not in depths and {spot, near} != {one, other}:
                    depths[near] = depth
                    after.append(near)
        edge = after
        if other in depths:
            return depths[other] + 1
    return None


class RingTest(unittest.TestCase):
    def test_by_hand(self):
        for book in BOOKS:
            for tie in book.ties():
                wanted = ring_by_hand(book, tie, 6)
                for most in (3, 4, 5, 6):
                    found = ring_number(book, tie, most=most)
                    self.assertEqual(found, wanted if wanted is not None and wanted <= most else None)
                    self.assertEqual(ring_number(book, turned_by_hand(tie), most=most), found)

    def test_known_numbers(self):
        for book, many in ((SQUARE, 4), (HEXAGONAL, 3), (COMB, 6), (CUBE, 4), (DIAMOND, 6), (KAGOME, 3), (WIDE, 4),
                           (CHAIN, None), (LONELY[0], None), (DOTS, None), (LADDER, 4)):
            self.assertEqual(ring_numbers(book), {tie: many for tie in book.ties()})
        self.assertEqual(set(ring_numbers(TREE, most=16).values()), {None})
        # Ties at different vectors between the same places join different spots.
        pairs = plain(1, "ab", [("a", "b", (0,)), ("a", "b", (1,)), ("a", "b", (2,))])
        self.assertEqual(ring_numbers(pairs), {tie: 4 for tie in pairs.ties()})
        self.assertEqual(ring_numbers(plain(1, "a", [("a", "a", (1,)), ("a", "a", (2,))])),
                         {("a", "a", (1,)): 3, ("a", "a", (2,)): 3})
        self.assertEqual(ring_numbers(plain(1, "a", [("a", "a", (1,)), ("a", "a", (5,))])),
                         {("a", "a", (1,)): 4, ("a", "a", (5,)): 4})
        self.assertEqual(ring_numbers(plain(2, "a", [("a", "a", (1, 0)), ("a", "a", (9, 0))])),
                         {("a", "a", (1, 0)): 4, ("a", "a", (9, 0)): 4})

    def test_most(self):
        for many, book in ROUNDS.items():
            for tie in book.ties():
                expected = None if tie[0] == tie[1] else many
                for most in range(3, 17):
                    found = ring_number(book, tie, most=most)
                    self.assertEqual(found, expected if expected is not None and expected <= most else None)
                self.assertEqual(ring_number(book, tie), expected if expected is not None and expected <= 8 else None)
        self.assertEqual(ring_number(most=16, tie=("b", "a", (0,)), book=ROUNDS[16]), 16)
        self.assertIsNone(ring_number(ROUNDS[17], ("a", "b", (0,)), most=16))
        self.assertIsNone(ring_number(ROUNDS[9], ("a", "b", (0,))))
        self.assertIsNone(ring_numbers(ROUNDS[9])[("a", "b", (0,))])
        self.assertEqual(ring_numbers(ROUNDS[8])[("a", "b", (0,))], 8)

    def test_ring_numbers(self):
        for book in BOOKS:
            found = ring_numbers(book=book)
            self.assertEqual(list(found), book.ties())
            self.assertEqual(found, {tie: ring_number(book, tie) for tie in book.ties()})
            self.assertEqual(ring_numbers(most=4, book=book), {tie: ring_number(book, tie, most=4) for tie in found})
            gives_new(self, ring_numbers, book)
        self.assertEqual(ring_numbers(LONELY[2]), {})

    def test_kept(self):
        chance = random.Random(542)
        for book in BOOKS:
            motion = random_motion(chance, book.names(), book.directions)
            other = motion.carry(book)
            told = ring_numbers(other)
            for tie, many in ring_numbers(book).items():
                one, end = motion.lead((tie[0], (0,) * book.directions)), motion.lead((tie[1], tie[2]))
                moved = (one[0], end[0], tuple(b - a for a, b in zip(one[1], end[1])))
                self.assertEqual(told[standard(moved)], many)
        for book in (SQUARE, COMB, KAGOME, TREE):
            for lattice in sublattices(book.directions, 3):
                coarse = CoarseBook(book, lattice).book
                self.assertEqual(sorted(map(str, ring_numbers(coarse).values())),
                                 sorted(str(many) for many in ring_numbers(book).values() for _ in range(3)))
        own = OwnBook(TWO_CLASSES, "b").book
        told = ring_numbers(TWO_CLASSES)
        self.assertEqual(sorted(map(str, ring_numbers(own).values())),
                         sorted(str(told[tie]) for tie in told if tie[0] in own))

    def test_errors(self):
        tie = ("a", "a", (1, 0))
        for value in ANY_VALUES + [("a", "a", (2, 0)), ("a", "a", [1, 0]), ["a", "a", (1, 0)], ("a", "a", (True, 0)),
                                   ("a", "a", (1, False)), ("a", "b", (1, 0)), ("a", "a", (0, 0)), tie[:2], (*tie, 1)]:
            for most in (8, 2, None):
                self.assertEqual(outcome(ring_number, SQUARE, value, most=most), raised("UnknownTie", tie=value), value)
        for value in WRONG:
            self.assertEqual(outcome(ring_number, SQUARE, tie, most=value), raised("InvalidNumber", value=value))
            self.assertEqual(outcome(ring_numbers, SQUARE, most=value), raised("InvalidNumber", value=value))
            self.assertEqual(outcome(ring_numbers, LONELY[0], most=value), raised("InvalidNumber", value=value))
        self.assertRaises(TypeError, ring_number, SQUARE, tie, 8)
        self.assertRaises(TypeError, ring_numbers, SQUARE, 8)


if __name__ == "__main__":
    unittest.main()
