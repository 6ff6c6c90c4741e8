"""Lattices: all sums of whole multiples of some vectors."""

from endlessnets.bounds import MOST_DIRECTIONS
from endlessnets.errors import InvalidDirections, InvalidLattice, InvalidMatrix, InvalidNumber, InvalidVector, Misfit
from endlessnets.vectors import is_unimodular, is_vector, led, unit, vector_minus, vector_plus, vector_times, zero
from endlessnets.words import is_number

MOST_INDEX = 12
MOST_CELLS = 200


def bezout(one, other):
    """Numbers x and y for which one * x + other * y is the greatest common divisor, for one from 1 on."""
    if other % one == 0:
        return (1, 0)
    ahead, rest = one, other
    told, after = (1, 0), (0, 1)
    while rest != 0:
        times = ahead // rest
        ahead, rest = rest, ahead - times * rest
        told, after = after, vector_minus(told, vector_times(after, times))
    return told if ahead > 0 else vector_times(told, -1)


def pivot_of(row, width):
    """The index of the first number among so many that is not 0, None if there is none."""
    for at in range(width):
        if row[at] != 0:
            return at
    return None


def reduced(row, pivots, rows):
    """A row less the rows with these pivots, so that it has numbers from 0 to below each pivot."""
    present = row
    for at, taken in zip(pivots, rows):
        present = vector_minus(present, vector_times(taken, present[at] // taken[at]))
    return present


def ordered(slots):
    """Rows by their pivots, each with a positive pivot and reduced by the rows behind it."""
    pivots = []
    rows = []
    for at in sorted(slots, reverse=True):
        row = slots[at] if slots[at][at] > 0 else vector_times(slots[at], -1)
        rows = [reduced(row, pivots, rows), *rows]
        pivots = [at, *pivots]
    return (pivots, rows)


def inserted(pivots, rows, row, width):
    """The pivots and rows of the lattice with one more row."""
    slots = {at: taken for at, taken in zip(pivots, rows)}
    rest = row
    at = pivot_of(rest, width)
    while at is not None and at in slots:
        taken = slots[at]
        left, right = bezout(taken[at], rest[at])
        new = vector_plus(vector_times(taken, left), vector_times(rest, right))
        rest = vector_minus(vector_times(rest, taken[at] // new[at]), vector_times(taken, rest[at] // new[at]))
        slots[at] = new
        at = pivot_of(rest, width)
    if at is not None:
        slots[at] = rest
    return ordered(slots)


def echelon(vectors, tails, width):
    """The basis of the lattice of vectors, each row followed by what the same sums make of the tails."""
    pivots = []
    rows = []
    for vector, tail in zip(vectors, tails):
        present = reduced(vector, pivots, [row[:width] for row in rows])
        # Rows in the lattice are left out, so that the numbers of the tails stay small.
        if pivot_of(present, width) is not None:
            pivots, rows = inserted(pivots, rows, (*vector, *tail), width)
    return rows


def hermite(vectors, width):
    """The basis of the lattice of a list of tuples of so many numbers."""
    return echelon(vectors, [() for _ in vectors], width)


def hermite_table(vectors, width):
    """The basis, and for each of its vectors the numbers of times that the passed ones are taken."""
    many = len(vectors)
    rows = echelon(vectors, [unit(many, at) for at in range(many)], width)
    return ([row[:width] for row in rows], [row[width:] for row in rows])


def cells_of(basis, directions):
    """The product of the pivots of a basis, None if there are fewer of them than directions."""
    if len(basis) != directions:
        return None
    found = 1
    for at, row in enumerate(basis):
        found = found * row[at]
    return found


def pivot_lists(directions, index):
    """All tuples of so many pivots with a product."""
    if directions == 0:
        return [()] if index == 1 else []
    firsts = [first for first in range(1, index + 1) if index % first == 0]
    return [(first, *rest) for first in firsts for rest in pivot_lists(directions - 1, index // first)]


def rows_with(pivots, at):
    """All vectors that a basis with these pivots can have at an index."""
    found = [(*zero(at), pivots[at])]
    for pivot in pivots[at + 1:]:
        found = [(*row, number) for row in found for number in range(pivot)]
    return found


def bases_with(pivots):
    """All bases with a pivot in each direction."""
    found = [[]]
    for at in range(len(pivots)):
        found = [[*rows, row] for rows in found for row in rows_with(pivots, at)]
    return found


def sublattices(directions, index):
    """The lattices with this rank and this index, in the ascending order of their bases."""
    if not is_number(directions, 1, MOST_DIRECTIONS):
        raise InvalidDirections(directions)
    if not is_number(index, 1, MOST_INDEX):
        raise InvalidNumber(index)
    bases = [basis for pivots in pivot_lists(directions, index) for basis in bases_with(pivots)]
    for basis in sorted(bases):
        yield Lattice(directions, basis)


class Lattice:
    """All sums of whole multiples of a list of vectors."""

    def __init__(self, directions, vectors=()):
        if not is_number(directions, 1, MOST_DIRECTIONS):
            raise InvalidDirections(directions)
        if not isinstance(vectors, (list, tuple)):
            raise InvalidVector(-1)
        for at, vector in enumerate(vectors):
            if not is_vector(vector, directions):
                raise InvalidVector(at)
        self.directions = directions
        self._basis = hermite(vectors, directions)
        self._pivots = [pivot_of(row, directions) for row in self._basis]
        self.rank = len(self._basis)
        self.cells = cells_of(self._basis, directions)

    def basis(self):
        """The list of the vectors of the basis."""
        return list(self._basis)

    def remainder(self, vector):
        """The remainder of a vector, the same for vectors whose difference is in the lattice."""
        if not is_vector(vector, self.directions):
            raise InvalidVector(0)
        return reduced(vector, self._pivots, self._basis)

    def numbers(self, vector):
        """How often each vector of the basis is taken to give a vector; None for any other value."""
        if not is_vector(vector, self.directions):
            return None
        found = []
        present = vector
        for at, taken in zip(self._pivots, self._basis):
            many = present[at] // taken[at]
            found.append(many)
            present = vector_minus(present, vector_times(taken, many))
        return tuple(found) if present == zero(self.directions) else None

    def remainders(self):
        """The ascending list of the remainders of all vectors."""
        if self.cells is None or self.cells > MOST_CELLS:
            raise InvalidLattice()
        found = [()]
        for at, row in enumerate(self._basis):
            found = [(*head, number) for head in found for number in range(row[at])]
        return found

    def led(self, matrix):
        """The lattice of the products of the vectors and a unimodular matrix."""
        if not is_unimodular(matrix, self.directions):
            raise InvalidMatrix()
        return Lattice(self.directions, [led(row, matrix) for row in self._basis])

    def __contains__(self, vector):
        return self.numbers(vector) is not None

    def __add__(self, other):
        if self.directions != other.directions:
            raise Misfit()
        return Lattice(self.directions, [*self._basis, *other._basis])

    def __and__(self, other):
        if self.directions != other.directions:
            raise Misfit()
        nothing = zero(self.directions)
        # In a sum without a first half, both lattices give opposite vectors, so the second half is in both.
        rows = [(*row, *row) for row in self._basis]
        others = [(*row, *nothing) for row in other._basis]
        joint = hermite([*rows, *others], 2 * self.directions)
        return Lattice(self.directions, [row[self.directions:] for row in joint if row[:self.directions] == nothing])

    def __eq__(self, other):
        return isinstance(other, Lattice) and self.directions == other.directions and self._basis == other._basis

    def __len__(self):
        return len(self._basis)

    def __bool__(self):
        return True

    def __repr__(self):
        return f"Lattice(rank {self.rank} of {self.directions})"
