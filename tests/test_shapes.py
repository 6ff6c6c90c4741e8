"""Pull tables, shapes, products and squares ([14])."""

import random
import unittest
from fractions import Fraction

from endlessnets.resting import rest
from endlessnets.shapes import longest, product, pull_table, shape, square, tie_squares
from endlessnets.vectors import identity
from fractional import determinant, dot, led, numbers, pairs, steps_of
from samples import COMB, CUBE, FALLING, HEAVY, HEXAGONAL, LADDER, SKEW, SQUARE, TREE, WHOLE, plain, random_whole_books
from test_motions import random_motion
from tools import ANY_VALUES, falls_first, gives_new, outcome, raised

BOOKS = WHOLE + random_whole_books(320, 30)
NO_POINTS = ANY_VALUES + [
    ((1, 2),), ((1, 2), (1, 2), (1, 2)), [(1, 2), (1, 2)], ([1, 2], (1, 2)), ((2, 4), (1, 2)), ((1, -2), (1, 2)),
    ((1, 0), (0, 1)), ((0, 2), (0, 1)), ((1, 2), None), ((1, 2), (True, 1)), ((1, True), (0, 1)), ((1, 2, 3), (1, 2))]
POINT = ((1, 2), (-3, 7))


def table_numbers(table):
    assert isinstance(table, tuple)
    return tuple(numbers(row) for row in table)


def steps_by_tie(book):
    steps = steps_of(book, {name: numbers(point) for name, point in rest(book).items()})
    return {tie: steps[tie] for tie in book.ties()}


def pull_by_hand(book):
    found = [[Fraction(0)] * book.directions for _ in range(book.directions)]
    for step in steps_by_tie(book).values():
        for row, left in enumerate(step):
            for column, right in enumerate(step):
                found[row][column] += left * right
    return tuple(tuple(row) for row in found)


def some_point(chance, directions, bound=99):
    return tuple(Fraction(chance.randint(-bound, bound), chance.randint(1, bound)) for _ in range(directions))


class TableTest(unittest.TestCase):
    def test_pull_table(self):
        for book in BOOKS:
            self.assertEqual(table_numbers(pull_table(book=book)), pull_by_hand(book))
            self.assertGreater(determinant(table_numbers(pull_table(book))), 0)

    def test_shape(self):
        for book in BOOKS:
            table = table_numbers(shape(book=book))
            self.assertEqual(tuple(led(row, pull_by_hand(book)) for row in table), identity(book.directions))

    def test_by_hand(self):
        self.assertEqual(pull_table(COMB), (((2, 3), (-1, 3)), ((-1, 3), (2, 3))))
        self.assertEqual(shape(COMB), (((2, 1), (1, 1)), ((1, 1), (2, 1))))
        self.assertEqual(pull_table(SQUARE), (((1, 1), (0, 1)), ((0, 1), (1, 1))))
        self.assertEqual(shape(HEXAGONAL), (((2, 3), (-1, 3)), ((-1, 3), (2, 3))))
        self.assertEqual(pull_table(LADDER), (((2, 1),),))
        self.assertEqual(pull_table(TREE), (((1, 1),),))

    def test_first_of_all(self):
        for function in (pull_table, shape, tie_squares, longest):
            falls_first(self, function, falling=FALLING)
        for value in (None, (), ((0, 1),), 7):
            falls_first(self, square, value, falling=FALLING)
            falls_first(self, product, value, None, falling=FALLING)

    def test_carried_shapes(self):
        chance = random.Random(321)
        for book in BOOKS:
            motion = random_motion(chance, book.names(), book.directions)
            carried = motion.carry(book)
            columns = tuple(zip(*motion.matrix()))
            # The pull table C of the carried book is M' C M, with M' as M with rows and columns exchanged.
            half = tuple(led(row, pull_by_hand(book)) for row in columns)
            self.assertEqual(table_numbers(pull_table(carried)), tuple(led(row, motion.matrix()) for row in half))
            self.assertEqual(sorted(tie_squares(carried).values()), sorted(tie_squares(book).values()))


class ProductTest(unittest.TestCase):
    def test_products(self):
        chance = random.Random(322)
        for book in BOOKS:
            table = table_numbers(shape(book))
            for bound in (3, 10 ** 38):
                one, other = (some_point(chance, book.directions, bound) for _ in range(2))
                wanted = pairs([dot(led(one, table), other)])[0]
                self.assertEqual(product(book, pairs(one), pairs(other)), wanted)
                self.assertEqual(product(other=pairs(one), one=pairs(other), book=book), wanted)
                self.assertEqual(square(point=pairs(one), book=book), pairs([dot(led(one, table), one)])[0])
        self.assertEqual(product(COMB, ((1, 1), (0, 1)), ((0, 1), (1, 1))), (1, 1))
        self.assertEqual(product(COMB, ((1, 2), (0, 1)), ((1, 3), (-1, 1))), (-1, 6))
        self.assertEqual(square(COMB, ((1, 3), (1, 3))), (2, 3))
        self.assertEqual(square(CUBE, ((0, 1),) * 3), (0, 1))

    def test_errors(self):
        for value in NO_POINTS:
            self.assertEqual(outcome(square, COMB, value), raised("InvalidVector", at=0), value)
            self.assertEqual(outcome(product, COMB, value, POINT), raised("InvalidVector", at=0))
            self.assertEqual(outcome(product, COMB, POINT, value), raised("InvalidVector", at=1))
            self.assertEqual(outcome(product, COMB, value, value), raised("InvalidVector", at=0))
        self.assertEqual(outcome(product, COMB, POINT, POINT[:1]), raised("InvalidVector", at=1))
        self.assertEqual(outcome(square, CUBE, POINT), raised("InvalidVector", at=0))


class SquareTest(unittest.TestCase):
    def test_tie_squares(self):
        for book in BOOKS:
            found = tie_squares(book=book)
            table = table_numbers(shape(book))
            self.assertEqual(list(found), book.ties())
            self.assertEqual({tie: numbers((item,))[0] for tie, item in found.items()},
                             {tie: dot(led(step, table), step) for tie, step in steps_by_tie(book).items()})
            self.assertEqual(sum(numbers(tuple(found.values()))), book.directions)
            gives_new(self, tie_squares, book)
        self.assertEqual(tie_squares(COMB), {tie: (2, 3) for tie in COMB.ties()})
        self.assertEqual(tie_squares(LADDER), {("a", "a", (1,)): (1, 2), ("a", "b", (0,)): (0, 1), ("b", "b", (1,)): (1, 2)})

    def test_longest(self):
        for book in BOOKS:
            squares = {tie: numbers((item,))[0] for tie, item in tie_squares(book).items()}
            self.assertEqual(longest(book=book), sorted(tie for tie in squares if squares[tie] == max(squares.values())))
            gives_new(self, longest, book)
        self.assertEqual(longest(COMB), COMB.ties())
        self.assertEqual(longest(LADDER), [("a", "a", (1,)), ("b", "b", (1,))])
        self.assertEqual(longest(HEAVY), [("b", "b", (10 ** 39,))])
        # By value 1 / 2 is above 9 / 20, though the tuple (9, 20) is above (1, 2).
        steps = plain(1, "a", [("a", "a", (1,)), ("a", "a", (3,)), ("a", "a", (2,))])
        self.assertEqual((longest(steps), tie_squares(steps)[("a", "a", (3,))]), ([("a", "a", (3,))], (9, 14)))
        self.assertEqual(longest(SKEW), [max(SKEW.ties(), key=lambda tie: numbers((tie_squares(SKEW)[tie],))[0])])
        by_value = plain(1, "a", [("a", "a", (3,)), ("a", "a", (2,)), ("a", "a", (1,)), ("a", "a", (4,))])
        self.assertEqual(tie_squares(by_value), {("a", "a", (1,)): (1, 30), ("a", "a", (2,)): (2, 15),
                                                 ("a", "a", (3,)): (3, 10), ("a", "a", (4,)): (8, 15)})
        self.assertEqual(longest(by_value), [("a", "a", (4,))])


if __name__ == "__main__":
    unittest.main()
