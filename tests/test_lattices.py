"""Lattices, their bases, remainders and sublattices ([4])."""

import copy
import itertools
import math
import random
import types
import unittest

from endlessnets.lattices import Lattice, hermite, hermite_table, sublattices
from endlessnets.vectors import determinant, led
from tools import ANY_VALUES, outcome, raised

BIG = 10 ** 39 + 7


def is_basis(rows, width):
    """Whether rows have the form that [4] asks of a basis."""
    pivots = []
    for row in rows:
        if len(row) != width or not any(row):
            return False
        pivots.append(next(at for at in range(width) if row[at] != 0))
    if pivots != sorted(set(pivots)):
        return False
    for index, (row, at) in enumerate(zip(rows, pivots)):
        if row[at] <= 0 or not all(0 <= ahead[at] < row[at] for ahead in rows[:index]):
            return False
    return True


def sum_of(vectors, numbers, width):
    return tuple(sum(number * vector[at] for number, vector in zip(numbers, vectors)) for at in range(width))


def numbers_for(basis, vector):
    """How often the rows of a basis give a vector, None if they do not."""
    rest, found = list(vector), []
    for row in basis:
        at = next(index for index, number in enumerate(row) if number != 0)
        if rest[at] % row[at] != 0:
            return None
        many = rest[at] // row[at]
        found.append(many)
        rest = [number - many * taken for number, taken in zip(rest, row)]
    return None if any(rest) else tuple(found)


def random_vectors(chance, many, width, bound):
    return [tuple(chance.randint(-bound, bound) for _ in range(width)) for _ in range(many)]


class HermiteTest(unittest.TestCase):
    def check(self, vectors, width):
        passed = copy.deepcopy(vectors)
        basis = hermite(vectors, width)
        same, table = hermite_table(vectors, width)
        self.assertEqual(vectors, passed)
        self.assertEqual(basis, same)
        self.assertIsInstance(basis, list)
        self.assertIsInstance(table, list)
        self.assertTrue(is_basis(basis, width), basis)
        self.assertEqual(len(table), len(basis))
        for row, numbers in zip(basis, table):
            self.assertIsInstance(numbers, tuple)
            self.assertEqual(len(numbers), len(vectors))
            self.assertEqual(sum_of(vectors, numbers, width), row)
        for vector in vectors:
            self.assertIsNotNone(numbers_for(basis, vector))
        return basis

    def test_nothing(self):
        for width in range(1, 9):
            self.assertEqual(hermite([], width), [])
            self.assertEqual(hermite_table([], width), ([], []))
            self.assertEqual(self.check([(0,) * width] * 3, width), [])

    def test_examples(self):
        self.assertEqual(self.check([(2, 0), (1, 1), (0, 2)], 2), [(1, 1), (0, 2)])
        self.assertEqual(self.check([(0, -3), (0, 5)], 2), [(0, 1)])
        self.assertEqual(self.check([(-4,), (6,)], 1), [(2,)])
        self.assertEqual(self.check([(0, 0, -2), (0, 4, 1)], 3), [(0, 4, 1), (0, 0, 2)])
        self.assertEqual(self.check([(5, 7, 1)], 3), [(5, 7, 1)])
        self.assertEqual(hermite(width=2, vectors=((-1, 5), (0, 3))), [(1, 1), (0, 3)])
        self.assertEqual(hermite_table(width=1, vectors=[(-7,)]), ([(7,)], [(-1,)]))

    def test_sums_of_others(self):
        chance = random.Random(21)
        for width in range(1, 9):
            vectors = random_vectors(chance, 3, width, 6)
            more = [sum_of(vectors, [chance.randint(-3, 3) for _ in vectors], width) for _ in range(4)]
            self.assertEqual(self.check(vectors + more, width), hermite(vectors, width))
            self.assertEqual(self.check(more[::-1] + vectors[::-1], width), hermite(vectors, width))

    def test_all_widths_and_sizes(self):
        chance = random.Random(22)
        for width in range(1, 9):
            for many, bound in ((1, 3), (2, BIG), (width, 4), (width, BIG), (width + 3, BIG), (40, 9), (450, BIG)):
                vectors = random_vectors(chance, many, width, bound)
                basis = self.check(vectors, width)
                chance.shuffle(vectors)
                self.assertEqual(hermite(vectors, width), basis)

    def test_index_of_as_many_vectors(self):
        chance = random.Random(23)
        for size in (1, 2, 3):
            for bound in (4, BIG):
                vectors = random_vectors(chance, size, size, bound)
                index = abs(determinant(tuple(vectors)))
                self.assertEqual(Lattice(size, vectors).cells, index or None)

    def test_new_lists(self):
        vectors = [(2, 1), (0, 3)]
        hermite(vectors, 2).clear()
        basis, table = hermite_table(vectors, 2)
        basis.clear()
        table.clear()
        self.assertEqual(hermite(vectors, 2), [(2, 1), (0, 3)])


class LatticeTest(unittest.TestCase):
    def test_example(self):
        even = Lattice(2, [(2, 0), (1, 1), (0, 2)])
        self.assertEqual([even.basis(), even.cells, even.remainder((3, 2)), (3, 1) in even, even.numbers((3, 1)),
                          even.remainders()], [[(1, 1), (0, 2)], 2, (0, 1), True, (3, -1), [(0, 0), (0, 1)]])
        self.assertEqual([even.rank, even.directions, len(even), repr(even)], [2, 2, 2, "Lattice(rank 2 of 2)"])

    def test_without_vectors(self):
        for size in (1, 2, 3):
            for empty in (Lattice(size), Lattice(directions=size), Lattice(size, []), Lattice(size, ((0,) * size,))):
                self.assertEqual([empty.basis(), empty.rank, empty.cells, len(empty)], [[], 0, None, 0])
                self.assertIs(bool(empty), True)
                self.assertEqual(repr(empty), f"Lattice(rank 0 of {size})")
                self.assertEqual(empty.remainder((5,) * size), (5,) * size)
                self.assertEqual(empty.numbers((0,) * size), ())
                self.assertIn((0,) * size, empty)
                self.assertNotIn((1,) * size, empty)

    def test_errors_of_the_constructor(self):
        for value in [value for value in ANY_VALUES if type(value) is not int] + [0, 4, -1, 10 ** 39]:
            for vectors in ((), None, [None]):
                self.assertEqual(outcome(Lattice, value, vectors), raised("InvalidDirections", value=value))
        for value in ANY_VALUES:
            if not isinstance(value, (list, tuple)):
                self.assertEqual(outcome(Lattice, 2, value), raised("InvalidVector", at=-1))
        self.assertEqual(outcome(Lattice, True), raised("InvalidDirections", value=True))
        wrong = [(1,), (1, 2, 3), [1, 2], (1, True), (None, 1), None, "ab", 7]
        for value in wrong:
            self.assertEqual(outcome(Lattice, 2, [value]), raised("InvalidVector", at=0))
            self.assertEqual(outcome(Lattice, 2, [(1, 2), (0, 0), value, None]), raised("InvalidVector", at=2))
            self.assertEqual(outcome(Lattice, vectors=((1, 2), value), directions=2), raised("InvalidVector", at=1))

    def test_remainders_of_vectors(self):
        chance = random.Random(24)
        for size in (1, 2, 3):
            for many in range(4):
                lattice = Lattice(size, random_vectors(chance, many, size, 5))
                for vector in itertools.product(range(-6, 7, 3), repeat=size):
                    rest = lattice.remainder(vector)
                    difference = tuple(one - other for one, other in zip(vector, rest))
                    self.assertIsNotNone(numbers_for(lattice.basis(), difference))
                    self.assertEqual(lattice.remainder(rest), rest)
                    self.assertEqual(lattice.numbers(vector), numbers_for(lattice.basis(), vector))
                    self.assertIs(vector in lattice, numbers_for(lattice.basis(), vector) is not None)
                    for taken in lattice.basis():
                        moved = tuple(one - 7 * other for one, other in zip(vector, taken))
                        self.assertEqual(lattice.remainder(moved), rest)
        lattice = Lattice(2, [(BIG, 3), (0, BIG)])
        self.assertEqual(lattice.remainder((-BIG, 0)), (0, 3))
        self.assertEqual(lattice.numbers(vector=(-BIG, BIG - 3)), (-1, 1))
        self.assertEqual(Lattice(3, [(0, 2, 1)]).remainder(vector=(5, -3, 0)), (5, 1, 2))

    def test_any_values(self):
        lattice = Lattice(2, [(1, 0)])
        right = {(1, 0): True, (0, 0): True, (1, 1): False, (-1, 5): False}
        for value in ANY_VALUES + [(True, 0), (1, False), [1, 0], (1, 0, 0)]:
            known = isinstance(value, tuple) and len(value) == 2 and all(type(item) is int for item in value)
            if known:
                self.assertIs(value in lattice, right[value])
                self.assertEqual(lattice.numbers(value), (value[0],) if right[value] else None)
            else:
                self.assertIs(value in lattice, False)
                self.assertIsNone(lattice.numbers(value))
                self.assertEqual(outcome(lattice.remainder, value), raised("InvalidVector", at=0))

    def test_all_remainders(self):
        self.assertEqual(Lattice(1, [(3,)]).remainders(), [(0,), (1,), (2,)])
        for directions, index in ((1, 12), (2, 12), (3, 8)):
            for lattice in sublattices(directions, index):
                found = lattice.remainders()
                self.assertEqual(len(found), index)
                self.assertEqual(found, sorted(set(found)))
                for vector in found:
                    self.assertEqual(lattice.remainder(vector), vector)
        self.assertEqual(len(Lattice(1, [(200,)]).remainders()), 200)
        self.assertEqual(len(Lattice(2, [(20, 3), (0, 10)]).remainders()), 200)
        for lattice in (Lattice(1, [(201,)]), Lattice(3, [(3, 0, 0), (0, 67, 0), (0, 0, 1)]), Lattice(2, [(1, 0)]),
                        Lattice(3), Lattice(1, [(BIG,)])):
            self.assertEqual(outcome(lattice.remainders), raised("InvalidLattice"))

    def test_led(self):
        lattice = Lattice(2, [(2, 0), (0, 3)])
        turn = ((0, 1), (-1, 0))
        self.assertEqual(lattice.led(turn), Lattice(2, [(3, 0), (0, 2)]))
        self.assertEqual(lattice.led(matrix=((1, 1), (0, 1))).basis(), hermite([(2, 2), (0, 3)], 2))
        line = Lattice(3, [(1, 2, 3)])
        matrix = ((0, 1, 0), (0, 0, 1), (1, 0, 5))
        self.assertEqual(line.led(matrix).basis(), hermite([led((1, 2, 3), matrix)], 3))
        for value in ANY_VALUES + [((1,),), ((1, 0), (0, 2)), ((1, 0), (0, True)), [(1, 0), (0, 1)],
                                   ((1, 0, 0), (0, 1, 0), (0, 0, 1))]:
            if value != ((1, 0), (0, 1)) or not isinstance(value, tuple) or value[1][1] is True:
                self.assertEqual(outcome(lattice.led, value), raised("InvalidMatrix"))

    def test_sums_and_meets(self):
        chance = random.Random(25)
        for size in (1, 2, 3):
            for many, more in itertools.product(range(4), repeat=2):
                one = Lattice(size, random_vectors(chance, many, size, 4))
                other = Lattice(size, random_vectors(chance, more, size, 4))
                both = one + other
                self.assertEqual(both, Lattice(size, one.basis() + other.basis()))
                met = one & other
                self.assertEqual(met, other & one)
                for vector in met.basis():
                    self.assertTrue(vector in one and vector in other)
                for vector in itertools.product(range(-4, 5), repeat=size):
                    self.assertIs(vector in met, vector in one and vector in other)
                if one.cells and other.cells:
                    self.assertEqual(met.cells * both.cells, one.cells * other.cells)
        self.assertEqual((Lattice(1, [(4,)]) & Lattice(1, [(6,)])).basis(), [(12,)])
        self.assertEqual((Lattice(1, [(4,)]) + Lattice(1, [(6,)])).basis(), [(2,)])
        self.assertEqual((Lattice(3) & Lattice(3, [(1, 0, 0)])).basis(), [])

    def test_misfit(self):
        for one, other in itertools.permutations([Lattice(1), Lattice(2, [(1, 1)]), Lattice(3)], 2):
            self.assertEqual(outcome(lambda: one + other), raised("Misfit"))
            self.assertEqual(outcome(lambda: one & other), raised("Misfit"))

    def test_equal(self):
        self.assertTrue(Lattice(2, [(1, 1), (1, -1)]) == Lattice(2, [(0, -2), (1, 3)]))
        self.assertFalse(Lattice(2, [(1, 1), (1, -1)]) != Lattice(2, [(0, -2), (1, 3)]))
        self.assertFalse(Lattice(2, [(1, 1)]) == Lattice(2, [(1, 2)]))
        self.assertFalse(Lattice(2) == Lattice(3))
        for value in (None, 0, [], [(1, 1)], "Lattice(rank 0 of 2)", {}):
            self.assertFalse(Lattice(2) == value)
            self.assertTrue(Lattice(2) != value)

    def test_nothing_changes(self):
        vectors = [(2, 0), (1, 1)]
        lattice = Lattice(2, vectors)
        vectors.clear()
        lattice.basis().clear()
        lattice.remainders().clear()
        lattice + Lattice(2, [(1, 0)])
        lattice & Lattice(2, [(1, 0)])
        lattice.led(((0, 1), (1, 0)))
        self.assertEqual([lattice.basis(), lattice.remainders()], [[(1, 1), (0, 2)], [(0, 0), (0, 1)]])
        self.assertEqual(vectors, [])


class SublatticesTest(unittest.TestCase):
    def test_numbers(self):
        self.assertEqual([len(list(sublattices(1, index))) for index in range(1, 13)], [1] * 12)
        divisors = {index: [k for k in range(1, index + 1) if index % k == 0] for index in range(1, 13)}
        for index in range(1, 13):
            self.assertEqual(len(list(sublattices(2, index))), sum(divisors[index]))
            expected = sum(k * sum(divisors[k]) for k in divisors[index])
            self.assertEqual(len(list(sublattices(index=index, directions=3))), expected)

    def test_each_once_and_in_order(self):
        for directions in (1, 2, 3):
            for index in (1, 2, 6, 12):
                bases = [lattice.basis() for lattice in sublattices(directions, index)]
                self.assertEqual(bases, sorted(bases))
                self.assertEqual(len(bases), len({tuple(basis) for basis in bases}))
                for lattice in sublattices(directions, index):
                    self.assertIsInstance(lattice, Lattice)
                    self.assertTrue(is_basis(lattice.basis(), directions))
                    self.assertEqual([lattice.directions, lattice.rank, lattice.cells], [directions, directions, index])
                    self.assertEqual(math.prod(row[at] for at, row in enumerate(lattice.basis())), index)
        self.assertEqual([lattice.basis() for lattice in sublattices(2, 2)],
                         [[(1, 0), (0, 2)], [(1, 1), (0, 2)], [(2, 0), (0, 1)]])

    def test_errors_with_the_first_item(self):
        for value in [0, 4, -1, True] + [value for value in ANY_VALUES if type(value) is not int]:
            for index in (1, 13, None):
                lattices = sublattices(value, index)
                self.assertIsInstance(lattices, types.GeneratorType)
                self.assertEqual(outcome(next, lattices), raised("InvalidDirections", value=value))
        for value in [0, 13, -1, True, 10 ** 39] + [value for value in ANY_VALUES if type(value) is not int]:
            lattices = sublattices(2, value)
            self.assertEqual(outcome(next, lattices), raised("InvalidNumber", value=value))


if __name__ == "__main__":
    unittest.main()
