"""Spots, neighbours, shells and distances ([6])."""

import random
import types
import unittest

from endlessnets.spots import are_joined, distance, is_spot, neighbours, shells, shifted
from samples import ALL, CHAIN, COMB, CUBE, DIAMOND, DOTS, FAR, FINITE_PAIR, LONELY, SLANTED, SQUARE, TWO_PIECES
from samples import random_books
from tools import ANY_VALUES, outcome, raised

BIG = 10 ** 39 + 7


def plus(one, other):
    return tuple(left + right for left, right in zip(one, other))


def minus(one, other):
    return tuple(left - right for left, right in zip(one, other))


def near_by_hand(book, spot):
    """The neighbours of a spot, straight from the ties."""
    name, vector = spot
    found = [(tie[1], plus(vector, tie[2])) for tie in book.ties() if tie[0] == name]
    found += [(tie[0], minus(vector, tie[2])) for tie in book.ties() if tie[1] == name]
    return sorted(found)


def depths_by_hand(book, spot, depth):
    depths = {spot: 0}
    edge = [spot]
    for step in range(1, depth + 1):
        after = []
        for one in edge:
            for near in near_by_hand(book, one):
                if near not in depths:
                    depths[near] = step
                    after.append(near)
        edge = after
    return depths


def some_spots(book, seed):
    chance = random.Random(seed)
    spots = [(name, (0,) * book.directions) for name in book.names()]
    for bound in (3, BIG):
        for name in book.names():
            spots.append((name, tuple(chance.randint(-bound, bound) for _ in range(book.directions))))
    return spots


def wrong_spots(book):
    zero = (0,) * book.directions
    return [("zzz", zero), ("a", zero + (0,)), ("a", zero[1:]), ("a", list(zero)), ["a", zero], ("a", zero, 1), ("a",),
            ("a", (True,) * book.directions), (1, zero), ("a", None), (["a"], zero), ("a", ("0",) * book.directions)]


class SpotTest(unittest.TestCase):
    def test_is_spot(self):
        for book in ALL:
            for spot in some_spots(book, 51):
                self.assertIs(is_spot(book, spot), True)
            for value in wrong_spots(book):
                self.assertIs(is_spot(book, value), False, value)
            for value in ANY_VALUES:
                self.assertIs(is_spot(book, value), book.directions == 2 and value == ("a", (0, 0)), value)
        self.assertIs(is_spot(value=("a", (1,)), book=CHAIN), True)

    def test_shifted(self):
        self.assertEqual(shifted(("a", (1, -2)), (5, 5)), ("a", (6, 3)))
        self.assertEqual(shifted(vector=(-BIG,), spot=("b", (BIG,))), ("b", (0,)))

    def test_neighbours(self):
        for book in ALL + random_books(52):
            for spot in some_spots(book, 53):
                found = neighbours(book, spot)
                self.assertEqual(found, near_by_hand(book, spot))
                self.assertEqual(found, sorted(set(found)))
                self.assertEqual(len(found), book.degree(spot[0]))
                self.assertNotIn(spot, found)
                shift = (1,) * book.directions
                self.assertEqual(neighbours(book, shifted(spot, shift)), [shifted(near, shift) for near in found])
        self.assertEqual(neighbours(spot=("a", (3,)), book=CHAIN), [("a", (2,)), ("a", (4,))])
        neighbours(CHAIN, ("a", (3,))).clear()
        self.assertEqual(len(neighbours(CHAIN, ("a", (3,)))), 2)

    def test_unknown_spots(self):
        for value in ANY_VALUES + wrong_spots(CUBE):
            for call in (lambda: neighbours(CUBE, value), lambda: next(shells(CUBE, value, None)),
                         lambda: distance(CUBE, value, None, most=None),
                         lambda: distance(CUBE, ("a", (0, 0, 0)), value, most=None)):
                self.assertEqual(outcome(call), raised("UnknownSpot", spot=value), value)
        wrong = ("a", (True, 0))
        self.assertEqual(outcome(neighbours, SQUARE, wrong), raised("UnknownSpot", spot=wrong))

    def test_are_joined(self):
        for book in ALL:
            for spot in some_spots(book, 54)[:4]:
                for near in near_by_hand(book, spot):
                    self.assertIs(are_joined(book, spot, near), True)
                    self.assertIs(are_joined(book, near, spot), True)
                for other in some_spots(book, 55):
                    self.assertIs(are_joined(book, spot, other), other in near_by_hand(book, spot))
                for value in ANY_VALUES + wrong_spots(book):
                    if not is_spot(book, value):
                        self.assertIs(are_joined(book, spot, value), False)
                        self.assertIs(are_joined(book, value, spot), False)
                        self.assertIs(are_joined(book, value, value), False)
        self.assertIs(are_joined(SQUARE, ("a", (0, 0)), ("a", (0, True))), False)
        self.assertIs(are_joined(other=("a", (1, 0)), one=("a", (0, 0)), book=SQUARE), True)


class ShellsTest(unittest.TestCase):
    def test_small_depths(self):
        for book in ALL + random_books(56):
            spot = some_spots(book, 57)[-1]
            depths = depths_by_hand(book, spot, 4)
            expected = [sorted(one for one in depths if depths[one] == step) for step in range(5)]
            self.assertEqual(list(shells(book, spot, 4)), expected)
            self.assertEqual(list(shells(book, spot, 0)), [[spot]])

    def test_great_depths(self):
        self.assertEqual([len(shell) for shell in shells(COMB, ("a", (0, 0)), 20)], [1] + [3 * k for k in range(1, 21)])
        self.assertEqual([len(shell) for shell in shells(SQUARE, ("a", (5, 5)), 20)], [1] + [4 * k for k in range(1, 21)])
        self.assertEqual([len(shell) for shell in shells(depth=20, spot=("a", (0, 0, 0)), book=CUBE)],
                         [1] + [4 * k * k + 2 for k in range(1, 21)])

    def test_empty_shells(self):
        self.assertEqual(list(shells(LONELY[1], ("a", (1, 2)), 3)), [[("a", (1, 2))], [], [], []])
        self.assertEqual([len(shell) for shell in shells(DOTS, ("b", (0, 0)), 20)], [1, 1] + [0] * 19)

    def test_errors_with_the_first_item(self):
        for value in [value for value in ANY_VALUES if type(value) is not int] + [-1, 21, 10 ** 39, True]:
            found = shells(CHAIN, ("a", (0,)), value)
            self.assertIsInstance(found, types.GeneratorType)
            self.assertEqual(outcome(next, found), raised("InvalidNumber", value=value))
        found = shells(CHAIN, ("b", (0,)), -1)
        self.assertEqual(outcome(next, found), raised("UnknownSpot", spot=("b", (0,))))

    def test_changed_lists_change_nothing(self):
        found = []
        for shell in shells(COMB, ("a", (0, 0)), 5):
            found.append(len(shell))
            shell.clear()
        self.assertEqual(found, [1, 3, 6, 9, 12, 15])


class DistanceTest(unittest.TestCase):
    def test_near_by(self):
        for book in ALL + random_books(58):
            spot = some_spots(book, 59)[-1]
            depths = depths_by_hand(book, spot, 4)
            for most in (0, 1, 4):
                for other, depth in list(depths.items())[:60]:
                    expected = depth if depth <= most else None
                    self.assertEqual(distance(book, spot, other, most=most), expected)
                    self.assertEqual(distance(book, other, spot, most=most), expected)

    def test_most(self):
        origin = ("a", (0, 0, 0))
        self.assertEqual(distance(CUBE, origin, ("a", (3, -3, 2))), 8)
        self.assertIsNone(distance(CUBE, origin, ("a", (3, -3, 3))))
        self.assertEqual(distance(CUBE, origin, ("a", (3, -3, 3)), most=9), 9)
        self.assertEqual(distance(CUBE, origin, ("a", (10, 0, -10)), most=20), 20)
        self.assertIsNone(distance(CUBE, origin, ("a", (10, 1, -10)), most=20))
        self.assertEqual(distance(most=0, other=origin, one=origin, book=CUBE), 0)
        self.assertIsNone(distance(CUBE, origin, ("a", (1, 0, 0)), most=0))
        self.assertEqual(distance(DIAMOND, origin, ("b", (5, 0, 0)), most=20), 9)

    def test_far_away_and_never(self):
        self.assertIsNone(distance(SQUARE, ("a", (0, 0)), ("a", (BIG, 0)), most=20))
        self.assertIsNone(distance(TWO_PIECES, ("a", (0, 0)), ("a", (1, 0)), most=20))
        self.assertIsNone(distance(FINITE_PAIR, ("a", (0,)), ("b", (6,)), most=20))
        self.assertEqual(distance(FINITE_PAIR, ("a", (0,)), ("b", (5,))), 1)
        self.assertEqual(distance(FAR, ("a", (0,)), ("a", (BIG - 6 - BIG,)), most=20), 12)
        self.assertEqual(distance(SLANTED, ("a", (BIG, -BIG)), ("a", (BIG, -BIG)), most=20), 0)

    def test_errors_in_order(self):
        origin = ("a", (0,))
        for value in [value for value in ANY_VALUES if type(value) is not int] + [-1, 21, 10 ** 39, False]:
            self.assertEqual(outcome(distance, CHAIN, origin, origin, most=value), raised("InvalidNumber", value=value))
        self.assertEqual(outcome(distance, CHAIN, "x", "y", most=-1), raised("UnknownSpot", spot="x"))
        self.assertEqual(outcome(distance, CHAIN, origin, "y", most=-1), raised("UnknownSpot", spot="y"))
        with self.assertRaises(TypeError):
            distance(CHAIN, origin, origin, 5)


if __name__ == "__main__":
    unittest.main()
