"""Routes ([12])."""

import copy
import random
import unittest

from endlessnets.classes import hang_together
from endlessnets.routes import backwards, is_route, route, route_length
from samples import ALL, CHAIN, COMB, CUBE, DIAMOND, FAR, LINES, SLANTED, SQUARE, TWO_CLASSES, TWO_PIECES, random_books
from samples import turned_by_hand
from test_classes import random_walk
from test_spots import plus, some_spots, wrong_spots
from tools import ANY_VALUES, outcome, raised

BIG = 10 ** 38 + 7
GO, BACK = ("a", "b", (0, 1)), ("b", "a", (-1, 0))


def end_of(book, spot, parts):
    """The spot to which a route leads from a spot; fails where [12] does not hold."""
    name, vector = spot
    for count, path in parts:
        assert type(count) is int and count >= 1 and isinstance(path, tuple) and path
        assert count == 1 or path[0][0] == path[-1][1]
        for tie in path:
            assert book.has_tie(tie) and tie[0] == name
            name = tie[1]
            vector = plus(vector, tuple(count * number for number in tie[2]))
    return (name, vector)


class RouteTest(unittest.TestCase):
    def check(self, book, one, other):
        found = route(book, one, other)
        self.assertEqual(route(book=book, other=other, one=one), found)
        if not hang_together(book, one, other):
            self.assertIsNone(found)
            return None
        self.assertIsInstance(found, list)
        self.assertTrue(all(isinstance(part, tuple) and len(part) == 2 for part in found))
        self.assertEqual(end_of(book, one, found), other)
        self.assertIs(is_route(book, one, other, found), True)
        self.assertIs(is_route(book, one, other, tuple(found)), True)
        back = backwards(found)
        self.assertEqual(end_of(book, other, back), one)
        self.assertIs(is_route(book, other, one, back), True)
        self.assertEqual(backwards(back), found)
        self.assertEqual(route_length(back), route_length(found))
        self.assertEqual(route_length(found), sum(count * len(path) for count, path in found))
        return found

    def test_near_by(self):
        chance = random.Random(91)
        for book in ALL + random_books(92):
            for spot in some_spots(book, 93):
                _, end = random_walk(chance, book, spot, chance.randint(1, 8))
                self.assertIsNotNone(self.check(book, spot, end))
                for other in some_spots(book, 94):
                    self.check(book, spot, other)

    def test_very_far_away(self):
        for book in (CHAIN, SQUARE, CUBE, COMB, DIAMOND, FAR):
            for name in book.names():
                for number in (BIG, -BIG):
                    start = ("a", (-number,) * book.directions)
                    end = (name, tuple(number + at for at in range(book.directions)))
                    self.assertIsNotNone(self.check(book, start, end))
        self.assertIsNotNone(self.check(TWO_PIECES, ("a", (BIG, BIG)), ("a", (-BIG, -BIG))))
        self.assertIsNotNone(self.check(LINES, ("a", (BIG, BIG)), ("a", (-BIG, BIG))))

    def test_itself(self):
        for book in ALL:
            for spot in some_spots(book, 95):
                self.check(book, spot, spot)
                self.assertIs(is_route(book, spot, spot, []), True)
                self.assertIs(is_route(book, spot, spot, ()), True)
        self.assertEqual([route_length([]), backwards([])], [0, []])

    def test_apart(self):
        self.assertIsNone(route(TWO_PIECES, ("a", (0, 0)), ("a", (BIG, 0))))
        self.assertIsNone(route(TWO_CLASSES, ("a", (0, 0, 0)), ("b", (0, 0, 0))))
        self.assertIsNone(route(LINES, ("a", (0, 0)), ("a", (5, 1))))

    def test_unknown_spots(self):
        origin = ("a", (0, 0, 0))
        for value in ANY_VALUES + wrong_spots(CUBE):
            for rest in ((), ([],), (None,)):
                function = is_route if rest else route
                self.assertEqual(outcome(function, CUBE, value, None, *rest), raised("UnknownSpot", spot=value))
                self.assertEqual(outcome(function, CUBE, origin, value, *rest), raised("UnknownSpot", spot=value))


class IsRouteTest(unittest.TestCase):
    def of(self, value, end=("b", (-1, 2)), start=("a", (0, 0))):
        found = is_route(COMB, start, end, value)
        if isinstance(value, list):
            self.assertIs(is_route(COMB, start, end, tuple(value)), found)
        return found

    def test_right_ones(self):
        self.assertIs(self.of([(1, (GO, BACK, GO))]), True)
        self.assertIs(self.of([(1, (GO, BACK)), (1, (GO,))]), True)
        self.assertIs(self.of([(1, (GO,)), (1, (BACK, GO))]), True)
        self.assertIs(self.of([(7, (GO, BACK)), (1, (GO,))], ("b", (-7, 8))), True)
        self.assertIs(self.of([(BIG, (GO, BACK))], ("a", (-BIG, BIG))), True)
        self.assertIs(self.of([(1, (BACK,))], ("a", (BIG - 1, 5)), ("b", (BIG, 5))), True)
        self.assertIs(is_route(value=[], other=("a", (1, 1)), one=("a", (1, 1)), book=COMB), True)

    def test_bent_ones(self):
        bent = [[], [(1, (GO,))], [(1, (GO, BACK))], [(2, (GO,))], [(0, (GO, BACK)), (1, (GO, BACK, GO))],
                [(1, ()), (1, (GO, BACK, GO))], [(1, (GO, GO))], [(1, (GO, BACK, GO)), (1, ())],
                [(-1, (GO, BACK)), (2, (GO, BACK)), (1, (GO, BACK, GO))], [(1, (GO,)), (1, (GO, BACK))],
                [[1, (GO, BACK, GO)]], [(1, [GO, BACK, GO])], [(True, (GO, BACK, GO))], [((1, 1), (GO, BACK, GO))],
                [(1, (GO, BACK, GO), 1)], [(1, (GO, BACK, ("a", "b", (False, 1))))], [(1, (GO, BACK, ("a", "b", (1, 1))))],
                [(1, GO)], [GO, BACK, GO], [1, (GO, BACK, GO)], [(1, (BACK, GO, BACK))], [(3, (GO, BACK, GO))],
                [None], [()], ["a"], [(1, (GO, BACK, GO)), None]]
        for value in bent:
            self.assertIs(self.of(value), False, value)
        self.assertIs(self.of([(1, (GO, BACK, GO))], ("a", (-1, 2))), False)
        self.assertIs(self.of([(1, (GO, BACK, GO))], ("b", (-1, 3))), False)
        self.assertIs(self.of([(1, (GO, BACK, GO))], ("b", (-1, 2)), ("b", (0, 0))), False)
        self.assertIs(self.of([], ("b", (0, 0))), False)
        self.assertIs(self.of([], ("a", (0, 1))), False)

    def test_any_values(self):
        for value in ANY_VALUES + [(1, (GO, BACK, GO)), {"a": 1}, "ab"]:
            self.assertIs(self.of(value), False)
            closed = is_route(COMB, ("a", (0, 0)), ("a", (0, 0)), value)
            self.assertIs(closed, isinstance(value, (list, tuple)) and not value)


class LengthTest(unittest.TestCase):
    def test_lengths(self):
        parts = [(5, (GO, BACK)), (1, (GO,)), (BIG, (BACK, GO))]
        self.assertEqual(route_length(parts), 11 + 2 * BIG)
        self.assertEqual(route_length(route=tuple(parts)), 11 + 2 * BIG)

    def test_backwards(self):
        parts = [(5, (GO, BACK)), (1, (GO, BACK, GO))]
        passed = copy.deepcopy(parts)
        go, back = turned_by_hand(GO), turned_by_hand(BACK)
        expected = [(1, (go, back, go)), (5, (back, go))]
        self.assertEqual(backwards(parts), expected)
        self.assertEqual(backwards(route=tuple(parts)), expected)
        self.assertEqual(parts, passed)
        returned = route(SLANTED, ("a", (0, 0)), ("a", (0, 0)))
        returned.append(None)
        self.assertEqual(route(SLANTED, ("a", (0, 0)), ("a", (0, 0))), returned[:-1])


if __name__ == "__main__":
    unittest.main()
