"""Rest positions, resting points, steps and excess ([13]), and how motions carry them ([8])."""

import copy
import random
import unittest
from fractions import Fraction

from endlessnets.books import Book
from endlessnets.points import point_of
from endlessnets.resting import excess, is_rest, rest, resting_point, spot_at, step
from endlessnets.spots import neighbours
from endlessnets.words import list_name
from fractional import dot, led, minus, numbers, pairs, plus, steps_of, times, ways
from samples import BEADS, CHAIN, COMB, DIAMOND, FALLING, FAR, HEAVY, LADDER, SQUARE, TREE, WHOLE, plain
from samples import random_whole_books
from test_motions import random_motion
from test_spots import some_spots, wrong_spots
from tools import ANY_VALUES, falls_first, gives_new, outcome, raised

BOOKS = WHOLE + random_whole_books(310, 30)
RING = plain(1, [list_name(at) for at in range(64)],
             [(list_name(at), list_name((at + 1) % 64), (at // 63,)) for at in range(64)])


def points_of(book):
    return {name: numbers(point) for name, point in rest(book).items()}


def excess_by_hand(book, points):
    """The excess as the sum over the ties from both ends, without the package's own ways from a place."""
    found = {name: (0,) * book.directions for name in book.names()}
    for one, other, vector in book.ties():
        moved = minus(plus(points[other], vector), points[one])
        found[one] = plus(found[one], moved)
        found[other] = minus(found[other], moved)
    return found


def some_points(chance, book, bound=9):
    return {name: pairs(tuple(Fraction(chance.randint(-bound, bound), chance.randint(1, bound))
                              for _ in range(book.directions))) for name in book.names()}


class RestTest(unittest.TestCase):
    def test_mean_of_the_neighbours(self):
        for book in BOOKS + [RING]:
            points = points_of(book)
            self.assertEqual(list(points), book.names())
            self.assertEqual(points[book.names()[0]], (0,) * book.directions)
            for name in book.names():
                near = [plus(points[place], vector) for place, vector in neighbours(book, (name, (0,) * book.directions))]
                middle = (0,) * book.directions
                for point in near:
                    middle = plus(middle, point)
                self.assertEqual(times(points[name], len(near)), middle)

    def test_by_hand(self):
        self.assertEqual(rest(COMB), {"a": ((0, 1), (0, 1)), "b": ((-1, 3), (-1, 3))})
        self.assertEqual(rest(SQUARE), {"a": ((0, 1), (0, 1))})
        self.assertEqual(rest(BEADS), {"a": ((0, 1),), "b": ((1, 4),), "c": ((1, 2),), "d": ((3, 4),)})
        self.assertEqual(rest(LADDER), {"a": ((0, 1),), "b": ((0, 1),)})
        self.assertEqual(rest(FAR), {"a": ((0, 1),), "b": ((1 - 2 * 10 ** 39, 2),)})
        self.assertEqual(rest(book=DIAMOND)["b"], ((-1, 4),) * 3)
        self.assertEqual(rest(TREE), {"a": ((0, 1),), "b": ((0, 1),), "c": ((-3, 1),), "d": ((-2, 1),), "e": ((7, 1),)})
        self.assertEqual(rest(HEAVY)["b"], ((-2 * 10 ** 38 - 3, 2),))
        self.assertEqual(rest(RING)["bl"], ((37, 64),))

    def test_new_dicts(self):
        for book in (COMB, TREE):
            gives_new(self, rest, book)
            gives_new(self, excess, book, rest(book))
            gives_new(self, spot_at, book, rest(book)["a"])

    def test_first_of_all(self):
        for function, more in ((rest, ()), (is_rest, (None,)), (resting_point, (None,)), (step, (None,))):
            falls_first(self, function, *more, falling=FALLING)
        falls_first(self, excess, {"a": ((0, 1),)}, falling=FALLING)
        falls_first(self, spot_at, ((0, 1),), falling=FALLING)
        self.assertEqual(outcome(rest, Book(2, [("a", "node")], [("a", "a", (1, 0))])), raised("Falls", many=None))


class IsRestTest(unittest.TestCase):
    def test_rest_positions(self):
        chance = random.Random(311)
        for book in BOOKS:
            found = rest(book)
            self.assertIs(is_rest(book, found), True)
            turned_round = {name: found[name] for name in reversed(book.names())}
            self.assertIs(is_rest(value=turned_round, book=book), True)
            moved = tuple(Fraction(chance.randint(-9, 9), 7) + 10 ** 30 for _ in range(book.directions))
            points = {name: pairs(plus(numbers(found[name]), moved)) for name in found}
            self.assertIs(is_rest(book, points), True)
            for name in found:
                for at in range(book.directions):
                    other = list(found[name])
                    other[at] = pairs([numbers(found[name])[at] + 1])[0]
                    self.assertIs(is_rest(book, {**found, name: tuple(other)}), len(book) == 1)

    def test_keys(self):
        for book in BOOKS:
            found = rest(book)
            self.assertIs(is_rest(book, {**found, "zz": point_of((0,) * book.directions)}), False)
            for name in found:
                less = {place: point for place, point in found.items() if place != name}
                self.assertIs(is_rest(book, less), False)
                self.assertIs(is_rest(book, {**less, "zz": found[name]}), False)
                self.assertIs(is_rest(book, {**less, "": found[name]}), False)

    def test_other_points(self):
        for book in BOOKS:
            found = rest(book)
            for name in found:
                point = found[name]
                double = tuple((2 * over, 2 * under) for over, under in point)
                minus_form = tuple((-over, -under) for over, under in point)
                plain_vector = tuple(over for over, _ in point)
                for value in [double, minus_form, plain_vector, list(point), (*point, (0, 1)), point[1:], None, (),
                              tuple(list(item) for item in point), "a", 0, book, ((0, 0),) * book.directions]:
                    self.assertIs(is_rest(book, {**found, name: value}), False, value)
        self.assertIs(is_rest(CHAIN, {"a": ((False, 1),)}), False)
        self.assertIs(is_rest(CHAIN, {"a": ((0, True),)}), False)
        self.assertIs(is_rest(CHAIN, {"a": ((0, 1),)}), True)
        self.assertIs(is_rest(CHAIN, {"a": ((10 ** 39, 7),)}), True)

    def test_any_values(self):
        for book in BOOKS:
            for value in ANY_VALUES + [list(rest(book).items()), tuple(rest(book).values()), {1: 2}]:
                self.assertIs(is_rest(book, value), False, value)
        flow = {tie: (1, 1) for tie in COMB.ties()}
        self.assertIs(is_rest(COMB, flow), False)


class PointTest(unittest.TestCase):
    def test_excess(self):
        chance = random.Random(312)
        for book in BOOKS:
            for bound in (3, 10 ** 30):
                points = some_points(chance, book, bound)
                kept = copy.deepcopy(points)
                found = excess(book, points)
                self.assertEqual(list(found), book.names())
                wanted = excess_by_hand(book, {name: numbers(point) for name, point in points.items()})
                self.assertEqual({name: numbers(point) for name, point in found.items()}, wanted)
                self.assertEqual(points, kept)
            nothing = point_of((0,) * book.directions)
            self.assertEqual(excess(points=rest(book), book=book), {name: nothing for name in book.names()})
        self.assertEqual(excess(COMB, {"b": ((0, 1), (1, 2)), "a": ((0, 1), (0, 1))}),
                         {"a": ((1, 1), (5, 2)), "b": ((-1, 1), (-5, 2))})
        self.assertEqual(list(excess(COMB, {"b": ((0, 1), (1, 2)), "a": ((0, 1), (0, 1))})), ["a", "b"])

    def test_resting_point(self):
        for book in BOOKS:
            points = points_of(book)
            for spot in some_spots(book, 313):
                found = resting_point(spot=spot, book=book)
                self.assertEqual(numbers(found), plus(points[spot[0]], spot[1]))
        self.assertEqual(resting_point(COMB, ("b", (1, -1))), ((2, 3), (-4, 3)))
        for value in ANY_VALUES + wrong_spots(SQUARE):
            if value != ("a", (0, 0)):
                self.assertEqual(outcome(resting_point, SQUARE, value), raised("UnknownSpot", spot=value))

    def test_step(self):
        for book in BOOKS:
            steps = steps_of(book, points_of(book))
            for tie in ways(book):
                found = step(tie=tie, book=book)
                self.assertEqual(numbers(found), steps[tie])
                back = (tie[1], tie[0], tuple(-number for number in tie[2]))
                self.assertEqual(numbers(step(book, back)), times(numbers(found), -1))
        self.assertEqual(step(COMB, ("b", "a", (-1, 0))), ((-2, 3), (1, 3)))
        for value in ANY_VALUES + [("a", "b", (1, 1)), ("a", "b", [0, 0]), ["a", "b", (0, 0)], ("a", "b"),
                                   ("a", "b", (False, 0)), ("a", "z", (0, 0)), ("b", "a", (1, 0)), (["a"], "b", (0, 0))]:
            if value != ("a", "b", (0, 0)):
                self.assertEqual(outcome(step, COMB, value), raised("UnknownTie", tie=value), value)

    def test_spot_at(self):
        for book in BOOKS:
            points = points_of(book)
            for spot in some_spots(book, 314):
                point = plus(points[spot[0]], spot[1])
                wanted = [(name, tuple(int(item) for item in minus(point, points[name]))) for name in book.names()
                          if all(item.denominator == 1 for item in minus(point, points[name]))]
                self.assertEqual(spot_at(book, pairs(point)), wanted)
                self.assertIn(spot, wanted)
                beside = plus(point, (Fraction(1, 10 ** 9),) * book.directions)
                self.assertEqual(spot_at(point=pairs(beside), book=book), [])
        self.assertEqual(spot_at(LADDER, ((3, 1),)), [("a", (3,)), ("b", (3,))])
        self.assertEqual(spot_at(LADDER, ((3, 2),)), [])
        self.assertEqual(spot_at(TREE, ((0, 1),)), [(name, (number,)) for name, number in
                                                   (("a", 0), ("b", 0), ("c", 3), ("d", 2), ("e", -7))])
        self.assertEqual(spot_at(COMB, ((-1, 3), (2, 3))), [("b", (0, 1))])
        self.assertEqual(spot_at(COMB, ((-1, 3), (1, 3))), [])


class MotionTest(unittest.TestCase):
    def test_carried_rest(self):
        chance = random.Random(315)
        for book in BOOKS:
            motion = random_motion(chance, book.names(), book.directions)
            carried = motion.carry(book)
            old, new = points_of(book), points_of(carried)
            lead = {name: motion.lead((name, (0,) * book.directions)) for name in book.names()}
            seen = {name: plus(new[place], vector) for name, (place, vector) in lead.items()}
            shift = seen[book.names()[0]]
            for name in book.names():
                self.assertEqual(minus(seen[name], shift), led(old[name], motion.matrix()))

    def test_many_places_and_ties(self):
        chance = random.Random(316)
        names = [list_name(at) for at in range(64)]
        ties = {(names[chance.randrange(at)], names[at], (chance.randint(-9, 9), 10 ** 39)) for at in range(1, 64)}
        while len(ties) < 398:
            one, other = sorted(chance.sample(names, 2))
            ties.add((one, other, (chance.randint(-9, 9), chance.randint(-10 ** 39, 10 ** 39))))
        book = plain(2, names, sorted(ties) + [("aa", "aa", (1, 0)), ("bb", "bb", (0, 1))])
        points = points_of(book)
        self.assertEqual(set(excess_by_hand(book, points).values()), {(0, 0)})
        self.assertIs(is_rest(book, rest(book)), True)
        self.assertGreater(dot(points["cc"], points["cc"]), 0)


if __name__ == "__main__":
    unittest.main()
