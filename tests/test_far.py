"""Simple rounds, norms, far papers and far routes ([32], [33])."""

import itertools
import random
import unittest
from fractions import Fraction

from endlessnets.coarsebooks import CoarseBook
from endlessnets.far import far_paper, far_route, is_far_paper, is_simple_round, least_distance, norm, period
from endlessnets.far import simple_rounds
from endlessnets.lattices import sublattices
from endlessnets.routes import is_route, route_length
from endlessnets.spots import distance
from fractional import dot, numbers, pairs, plus
from samples import BEADS, CHAIN, COMB, CUBE, DIAMOND, FALLING, HEXAGONAL, LADDER, SKEW, SQUARE, TREE
from samples import TWINNED, WIDE, plain, random_whole_books, turned_by_hand
from test_motions import random_motion
from test_spots import some_spots, wrong_spots
from tools import ANY_VALUES, falls_first, gives_new, outcome, raised

BIG = 10 ** 39 + 7
# Two rounds of the length 2 that lead two cells and one cell on: norms that are not whole.
HALVES = plain(2, "ab", [("a", "b", (0, 0)), ("b", "a", (3, 0)), ("a", "b", (0, 2)), ("b", "a", (1, 1))])
THREES = plain(1, "abc", [("a", "b", (0,)), ("b", "c", (0,)), ("c", "a", (2,)), ("a", "b", (1,))])
SMALL = [book for book in random_whole_books(521, 60) if book.directions < 3 and len(book) <= 5
         and len(book.ties()) <= 10]
BOOKS = [CHAIN, SQUARE, COMB, HEXAGONAL, SKEW, WIDE, BEADS, LADDER, TWINNED, TREE, HALVES, THREES, *SMALL]
WRONG_BOOKS = [(book, raised("Falls", many=many)) for book, many in FALLING]
WRONG_BOOKS += [(book, raised("InvalidDirections", value=3)) for book in (CUBE, DIAMOND)]


def rounds_by_hand(book):
    """The simple rounds from each of their places."""
    found = []
    for many in range(1, len(book) + 1):
        for names in itertools.permutations(book.names(), many):
            steps = [[tie for tie in book.leaving(one) if tie[1] == other]
                     for one, other in zip(names, names[1:] + names[:1])]
            for path in itertools.product(*steps):
                if many != 2 or path[1] != turned_by_hand(path[0]):
                    found.append(path)
    return found


def sum_of(book, path):
    return tuple(sum(tie[2][at] for tie in path) for at in range(book.directions))


def norm_by_hand(rounds, vector):
    """The least cost among all ways to tell a vector by as many rounds as directions."""
    if not any(vector):
        return Fraction(0)
    costs = []
    if len(vector) == 1:
        costs = [Fraction(vector[0], reached[0]) * length for reached, length in rounds if reached[0] * vector[0] > 0]
    for (one, length), (other, behind) in itertools.combinations(rounds, 2) if len(vector) == 2 else ():
        whole = one[0] * other[1] - one[1] * other[0]
        if whole:
            left = Fraction(vector[0] * other[1] - vector[1] * other[0], whole)
            right = Fraction(one[0] * vector[1] - one[1] * vector[0], whole)
            if left >= 0 and right >= 0:
                costs.append(left * length + right * behind)
    return min(costs)


def vectors_of(book, seed):
    chance = random.Random(seed)
    size = book.directions
    small = [tuple(chance.randint(-5, 5) for _ in range(size)) for _ in range(5)]
    large = [tuple(chance.choice([-BIG, 0, BIG, 10 ** 39 - 1, 3]) for _ in range(size)) for _ in range(3)]
    units = [tuple(int(at == other) for at in range(size)) for other in range(size)]
    return [(0,) * size, *units, *[tuple(-number for number in unit) for unit in units], *small, *large]


class RoundTest(unittest.TestCase):
    def test_is_simple_round(self):
        for book in BOOKS + [CUBE, DIAMOND] + [book for book, _ in FALLING]:
            known = rounds_by_hand(book)
            for path in known[:80]:
                self.assertIs(is_simple_round(book, path), True)
                self.assertIs(is_simple_round(value=list(path), book=book), False)
                self.assertIs(is_simple_round(book, path + path), False)
                if len(path) > 1:
                    self.assertIs(is_simple_round(book, path[1:]), path[1:] in known)
                for other in known[:20]:
                    self.assertIs(is_simple_round(book, path + other), False)
            for tie in [tie for name in book.names() for tie in book.leaving(name)]:
                self.assertIs(is_simple_round(book, (tie, turned_by_hand(tie))), False)
                self.assertIs(is_simple_round(book, (tie,)), tie[0] == tie[1])
                self.assertIs(is_simple_round(book, tie), False)
            for value in ANY_VALUES:
                self.assertIs(is_simple_round(book, value), False, value)

    def test_by_hand(self):
        one, other = ("a", "b", (0, 0)), ("b", "a", (0, -1))
        self.assertIs(is_simple_round(COMB, (one, other)), True)
        self.assertIs(is_simple_round(COMB, (one, ("b", "a", (0, 0)))), False)
        self.assertIs(is_simple_round(COMB, (one, other, ("a", "b", (1, 0)), ("b", "a", (0, 0)))), False)
        self.assertIs(is_simple_round(COMB, (one, ("b", "a", (0, 1)))), False)
        self.assertIs(is_simple_round(COMB, (one, ("b", "a", (False, -1)))), False)
        self.assertIs(is_simple_round(SQUARE, (("a", "a", (1, 0)),)), True)
        self.assertIs(is_simple_round(SQUARE, (("a", "a", (True, 0)),)), False)
        self.assertIs(is_simple_round(SQUARE, (("a", "a", (1, 0)), ("a", "a", (0, 1)))), False)

    def test_simple_rounds(self):
        for book in BOOKS:
            wanted = sorted({(sum_of(book, path), len(path)) for path in rounds_by_hand(book)})
            self.assertEqual(simple_rounds(book=book), wanted)
            gives_new(self, simple_rounds, book)
        self.assertEqual(simple_rounds(CHAIN), [((-1,), 1), ((1,), 1)])
        triangle = plain(1, "abc", [("a", "b", (0,)), ("b", "c", (0,)), ("c", "a", (0,)), ("a", "a", (1,))])
        self.assertEqual(simple_rounds(triangle), [((-1,), 1), ((0,), 3), ((1,), 1)])

    def test_first_of_all(self):
        paper = far_paper(SQUARE, (2, 3))
        for book, error in WRONG_BOOKS:
            self.assertEqual(outcome(simple_rounds, book), error)
            for value in (None, "x", (1, 2), paper):
                self.assertEqual(outcome(norm, book, value), error)
                self.assertEqual(outcome(far_paper, book, value), error)
                self.assertEqual(outcome(is_far_paper, book, value, value), error)
                self.assertEqual(outcome(far_route, book, value, paper, value), error)
                self.assertEqual(outcome(least_distance, book, paper, value, value), error)
        falls_first(self, simple_rounds, falling=FALLING)


class NormTest(unittest.TestCase):
    def test_norms(self):
        for book in BOOKS:
            rounds = [(sum_of(book, path), len(path)) for path in rounds_by_hand(book)]
            for vector in vectors_of(book, 522):
                found = norm(vector=vector, book=book)
                self.assertEqual(found, pairs([norm_by_hand(sorted(set(rounds)), vector)])[0])
                self.assertEqual(norm(book, tuple(-number for number in vector)), found)

    def test_by_hand(self):
        self.assertEqual(norm(SQUARE, (2, -3)), (5, 1))
        self.assertEqual(norm(SQUARE, (0, 0)), (0, 1))
        self.assertEqual(norm(HEXAGONAL, (2, 3)), (3, 1))
        self.assertEqual(norm(HEXAGONAL, (2, -3)), (5, 1))
        self.assertEqual(norm(THREES, (1,)), (1, 1))
        self.assertEqual(norm(THREES, (2,)), (2, 1))
        self.assertEqual(norm(HALVES, (1, 0)), (2, 3))
        self.assertEqual(norm(CHAIN, (-10 ** 39,)), (10 ** 39, 1))
        self.assertEqual(norm(plain(1, "a", [("a", "a", (2,)), ("a", "a", (3,))]), (1,)), (1, 3))

    def test_below_the_distance(self):
        for book in BOOKS[:14]:
            for vector in vectors_of(book, 523)[:6]:
                found = distance(book, (book.names()[0], (0,) * book.directions), (book.names()[0], vector), most=12)
                if found is not None:
                    self.assertLessEqual(Fraction(*norm(book, vector)), found)

    def test_kept(self):
        """Books told otherwise, and coarse books, have the same norms."""
        chance = random.Random(524)
        for book in BOOKS[:12]:
            motion = random_motion(chance, book.names(), book.directions)
            other = motion.carry(book)
            for vector in vectors_of(book, 525):
                moved = tuple(dot(vector, column) for column in zip(*motion.matrix()))
                self.assertEqual(norm(other, tuple(int(number) for number in moved)), norm(book, vector))
        for book in (SQUARE, HEXAGONAL, COMB, THREES):
            for lattice in sublattices(book.directions, 2):
                coarse = CoarseBook(book, lattice).book
                for numbers_told in vectors_of(book, 526)[:8]:
                    vector = tuple(sum(number * row[at] for number, row in zip(numbers_told, lattice.basis()))
                                   for at in range(book.directions))
                    self.assertEqual(norm(coarse, numbers_told), norm(book, vector))

    def test_wrong_vectors(self):
        for value in ANY_VALUES + [(1, True), [1, 2], (1, 2, 3), (1,), ((1, 1), (2, 1))]:
            if value in [(1, 0), (1, 1), (0, 0)] and type(value) is tuple and type(value[0]) is int:
                continue
            self.assertEqual(outcome(norm, SQUARE, value), raised("InvalidVector", at=0), value)
            self.assertEqual(outcome(far_paper, SQUARE, value), raised("InvalidVector", at=0))
            self.assertEqual(outcome(is_far_paper, SQUARE, value, None), raised("InvalidVector", at=0))


class PaperTest(unittest.TestCase):
    def check(self, book, vector, paper):
        """Both halves of a far paper, straight from [33]."""
        least, front, heights, rounds = paper
        known = rounds_by_hand(book)
        self.assertEqual([name for name, _ in heights], book.names())
        told = {name: Fraction(*height) for name, height in heights}
        self.assertEqual(pairs(told.values()), tuple(height for _, height in heights))
        for tie in [tie for name in book.names() for tie in book.leaving(name)]:
            self.assertLessEqual(dot(numbers(front), tie[2]) + told[tie[1]] - told[tie[0]], 1)
        self.assertEqual(dot(numbers(front), vector), Fraction(*least))
        reached, length = (Fraction(0),) * book.directions, Fraction(0)
        for fraction, path in rounds:
            self.assertGreater(Fraction(*fraction), 0)
            self.assertEqual(pairs([Fraction(*fraction)]), (fraction,))
            self.assertIn(path, known)
            reached = plus(reached, tuple(Fraction(*fraction) * item for item in sum_of(book, path)))
            length += Fraction(*fraction) * len(path)
        self.assertEqual((reached, length), (tuple(vector), Fraction(*least)))

    def test_papers(self):
        for book in BOOKS:
            for vector in vectors_of(book, 527):
                paper = far_paper(vector=vector, book=book)
                self.check(book, vector, paper)
                self.assertEqual(paper[0], norm(book, vector))
                self.assertIs(is_far_paper(book, vector, paper), True)
                self.assertEqual(far_paper(book, vector), paper)

    def test_told_otherwise(self):
        for book in BOOKS:
            for vector in vectors_of(book, 528)[1:8]:
                least, front, heights, rounds = far_paper(book, vector)
                moved = tuple((name, pairs([Fraction(*height) + Fraction(7, 3)])[0]) for name, height in heights)
                self.assertIs(is_far_paper(value=(least, front, moved, rounds), vector=vector, book=book), True)
                self.assertIs(is_far_paper(book, vector, (least, front, heights, rounds[::-1])), True)
                shared = tuple((pairs([Fraction(*fraction) / part])[0], path) for fraction, path in rounds
                               for part in (3, Fraction(3, 2)))
                self.assertIs(is_far_paper(book, vector, (least, front, heights, shared)), True)
                turned = tuple((fraction, path[1:] + path[:1]) for fraction, path in rounds)
                self.assertIs(is_far_paper(book, vector, (least, front, heights, turned)), True)

    def test_bent(self):
        for book in BOOKS:
            for vector in vectors_of(book, 529)[1:8]:
                if any(vector):
                    self.check_bent(book, vector, far_paper(book, vector))

    def check_bent(self, book, vector, paper):
        least, front, heights, rounds = paper
        beside = tuple(number + 1 for number in vector)
        opposite = tuple(-number for number in vector)
        (fraction, path), *more = rounds
        more = tuple(more)
        twice = pairs([2 * Fraction(*fraction)])[0]
        name, height = heights[0]
        wrong = [
            (pairs([Fraction(*least) + 1])[0], front, heights, rounds), (least[0], front, heights, rounds),
            (least, front[1:], heights, rounds), (least, (*front, (0, 1)), heights, rounds),
            (least, pairs([2 * number for number in numbers(front)]), heights, rounds),
            (least, ((0, 1),) * book.directions, heights, rounds), (least, list(front), heights, rounds),
            (least, front, heights[1:], rounds), (least, front, (*heights, heights[0]), rounds),
            (least, front, list(heights), rounds), (least, front, dict(heights), rounds),
            (least, front, ((name, [*height]), *heights[1:]), rounds), (least, front, (("zz", height), *heights[1:]), rounds),
            (least, front, ((name, (2 * height[0], 2 * height[1])), *heights[1:]), rounds),
            (least, front, ([name, height], *heights[1:]), rounds), (least, front, ((name,), *heights[1:]), rounds),
            (least, front, heights, list(rounds)), (least, front, heights, more), (least, front, heights, ()),
            (least, front, heights, (*rounds, rounds[0])), (least, front, heights, ((twice, path), *more)),
            (least, front, heights, (*rounds, ((0, 1), path))), (least, front, heights, ((fraction, list(path)), *more)),
            (least, front, heights, ([fraction, path], *more)), (least, front, heights, ((path, fraction), *more)),
            (least, front, heights, (((2 * fraction[0], 2 * fraction[1]), path), *more)),
            (least, front, heights, ((fraction, path + path), *more)), (least, front, heights, ((fraction, ()), *more)),
            (least, front, heights, ((fraction, path, 1), *more)), (least, front, heights, (fraction, path)),
            (least, front, heights, (*rounds, ((-1, 2), path), ((1, 2), path))),
            list(paper), paper[:3], (*paper, None), (rounds, heights, front, least)]
        for value in wrong:
            self.assertIs(is_far_paper(book, vector, value), False, value)
        for other in (beside, opposite):
            self.assertIs(is_far_paper(book, other, paper), other == vector)
        for at, value in itertools.product(range(4), ANY_VALUES):
            bent = paper[:at] + (value,) + paper[at + 1:]
            if value != paper[at]:
                self.assertIs(is_far_paper(book, vector, bent), False, bent)
        if len(heights) > 1:
            for change in (-1000, 1000):
                bent = ((name, pairs([Fraction(*height) + change])[0]), *heights[1:])
                self.assertIs(is_far_paper(book, vector, (least, front, bent, rounds)), False)
            self.assertIs(is_far_paper(book, vector, (least, front, heights[::-1], rounds)), False)

    def test_rounds_that_are_too_long(self):
        """The rounds reach the vector, but not with the length of the norm."""
        least, front, heights, rounds = far_paper(SQUARE, (1, 0))
        aside = tuple(((1, 1), (("a", "a", (0, number)),)) for number in (1, -1))
        self.assertIs(is_far_paper(SQUARE, (1, 0), (least, front, heights, rounds)), True)
        self.assertIs(is_far_paper(SQUARE, (1, 0), (least, front, heights, rounds + aside)), False)
        for book in BOOKS:
            for vector in vectors_of(book, 536)[:6]:
                least, front, heights, rounds = far_paper(book, vector)
                around = tuple(((1, 1), path) for path in rounds_by_hand(book)
                               if not any(sum_of(book, path)))[:1]
                back_and_forth = next(path for path in rounds_by_hand(book) if any(sum_of(book, path)))
                back = tuple(turned_by_hand(tie) for tie in reversed(back_and_forth))
                around = around or (((1, 2), back_and_forth), ((1, 2), back))
                self.assertIs(is_far_paper(book, vector, (least, front, heights, rounds + around)), False)

    def test_any_values(self):
        for book, vector in ((SQUARE, (0, 0)), (CHAIN, (5,)), (COMB, (1, 2))):
            for value in ANY_VALUES:
                self.assertIs(is_far_paper(book, vector, value), False)

    def test_true_and_false(self):
        paper = ((1, 1), ((1, 1), (0, 1)), (("a", (0, 1)),), (((1, 1), (("a", "a", (1, 0)),)),))
        self.assertIs(is_far_paper(SQUARE, (1, 0), paper), True)
        bent = [((True, 1), *paper[1:]), ((1, True), *paper[1:]), (paper[0], ((1, 1), (False, 1)), *paper[2:]),
                (*paper[:2], (("a", (False, 1)),), paper[3]), (*paper[:3], (((1, True), (("a", "a", (1, 0)),)),)),
                (*paper[:3], (((1, 1), (("a", "a", (True, 0)),)),)), (*paper[:3], (((1, 1), (("a", "a", (1, False)),)),))]
        for value in bent:
            self.assertIs(is_far_paper(SQUARE, (1, 0), value), False)

    def test_the_zero_vector(self):
        for book in BOOKS:
            zero = (0,) * book.directions
            paper = far_paper(book, zero)
            self.assertEqual(paper[0], (0, 1))
            self.assertEqual(period((paper[0], paper[1], paper[2], ())), 1)
            self.assertIs(is_far_paper(book, zero, (paper[0], paper[1], paper[2], ())), True)
        self.assertIs(is_far_paper(SQUARE, (0, 0), ((0, 1), ((1, 1), (-1, 2)), (("a", (5, 1)),), ())), True)
        self.assertIs(is_far_paper(SQUARE, (0, 0), ((0, 1), ((1, 1), (-3, 2)), (("a", (5, 1)),), ())), False)
        loop = (("a", "a", (1, 0)),)
        self.assertIs(is_far_paper(SQUARE, (0, 0), ((2, 1), ((0, 1), (0, 1)), (("a", (0, 1)),), (
            ((1, 1), loop), ((1, 1), (("a", "a", (-1, 0)),))))), False)


class RouteTest(unittest.TestCase):
    def test_period(self):
        for book in BOOKS:
            for vector in vectors_of(book, 530):
                paper = far_paper(book, vector)
                fractions = [Fraction(*fraction) for fraction, _ in paper[3]]
                wanted = next(times for times in itertools.count(1)
                              if all((times * fraction).denominator == 1 for fraction in fractions))
                self.assertEqual(period(paper=paper), wanted)
        self.assertEqual(period(far_paper(HALVES, (1, 0))), 3)
        path = (("a", "a", (1, 0)),)
        self.assertEqual(period(((1, 1), (), (), (((1, 2), path), ((1, 3), path), ((1, 6), path)))), 6)

    def test_far_routes(self):
        for book in BOOKS:
            for vector in vectors_of(book, 531):
                paper = far_paper(book, vector)
                least = period(paper)
                for name, times in itertools.product(book.names(), (least, 3 * least, BIG // least * least)):
                    self.check_route(book, name, paper, vector, times)

    def check_route(self, book, name, paper, vector, times):
        found = far_route(book, name, paper, times)
        self.assertIsInstance(found, list)
        end = (name, tuple(times * number for number in vector))
        self.assertIs(is_route(book, (name, (0,) * book.directions), end, found), True)
        self.assertLessEqual(route_length(found), times * Fraction(*paper[0]) + 2 * (len(book) - 1))
        self.assertEqual(far_route(times=times, paper=paper, name=name, book=book), found)

    def test_shared_papers(self):
        for book in BOOKS[:14]:
            vector = vectors_of(book, 532)[6]
            least, front, heights, rounds = far_paper(book, vector)
            shared = tuple((pairs([Fraction(*fraction) / part])[0], path[1:] + path[:1]) for fraction, path in rounds
                           for part in (3, Fraction(3, 2)))
            paper = (least, front, heights, shared)
            self.assertIs(is_far_paper(book, vector, paper), True)
            for name in book.names():
                self.check_route(book, name, paper, vector, 2 * period(paper))

    def test_errors(self):
        paper = far_paper(HALVES, (1, 0))
        for value in ANY_VALUES:
            if value != "a":
                self.assertEqual(outcome(far_route, HALVES, value, paper, None), raised("UnknownName", name=value))
            self.assertEqual(outcome(far_route, HALVES, "a", paper, value), raised("InvalidNumber", value=value))
        for value in (0, -3, 1, 2, 4, 10 ** 39 + 1, 3.0, True):
            self.assertEqual(outcome(far_route, HALVES, "b", paper, value), raised("InvalidNumber", value=value))
        still = far_paper(HALVES, (0, 0))
        self.assertEqual(outcome(far_route, HALVES, "b", still, True), raised("InvalidNumber", value=True))
        self.assertEqual(outcome(far_route, HALVES, "b", still, 0), raised("InvalidNumber", value=0))
        self.assertEqual(outcome(far_route, HALVES, "b", still, 1)[0], "returned")


class LeastDistanceTest(unittest.TestCase):
    def test_bounds(self):
        for book in BOOKS[:20]:
            spots = some_spots(book, 533)[:2 * len(book)]
            for vector in vectors_of(book, 534)[1:7]:
                paper = far_paper(book, vector)
                heights = {name: Fraction(*height) for name, height in paper[2]}
                for one, other in itertools.product(spots, repeat=2):
                    found = least_distance(book, paper, one, other)
                    moved = tuple(b - a for a, b in zip(one[1], other[1]))
                    bound = dot(numbers(paper[1]), moved) + heights[other[0]] - heights[one[0]]
                    self.assertTrue(type(found) is int and found >= 0 and found >= bound)
                    self.assertTrue(found == 0 or found - 1 < bound)
                    real = distance(book, one, other, most=9)
                    self.assertTrue(found <= (10 ** 41 if real is None else real))

    def test_along_the_vector(self):
        for book in BOOKS:
            for vector in vectors_of(book, 535):
                paper = far_paper(book, vector)
                name = book.names()[-1]
                origin = (name, (0,) * book.directions)
                least = -(-paper[0][0] // paper[0][1])
                self.assertEqual(least_distance(other=(name, vector), one=origin, paper=paper, book=book), least)
                self.assertEqual(least_distance(book, paper, (name, vector), origin), 0)
                self.assertEqual(least_distance(book, paper, origin, origin), 0)

    def test_unknown_spots(self):
        paper = far_paper(SQUARE, (1, 2))
        spot = ("a", (5, 5))
        for value in ANY_VALUES + wrong_spots(SQUARE):
            if value == ("a", (0, 0)):
                continue
            for other in (spot, "x", value):
                self.assertEqual(outcome(least_distance, SQUARE, paper, value, other), raised("UnknownSpot", spot=value))
            self.assertEqual(outcome(least_distance, SQUARE, paper, spot, value), raised("UnknownSpot", spot=value))

    def test_all_books_are_tried(self):
        self.assertGreater(len(SMALL), 12)
        self.assertEqual({book.directions for book in SMALL}, {1, 2})


if __name__ == "__main__":
    unittest.main()
