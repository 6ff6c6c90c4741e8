"""Samenesses, beginnings and verdicts ([23], [26], [27])."""

import copy
import itertools
import random
import types
import unittest

from endlessnets.books import Book
from endlessnets.coarsebooks import CoarseBook
from endlessnets.frames import least_frames, measure
from endlessnets.lattices import Lattice, sublattices
from endlessnets.leastbooks import LeastBook, is_least
from endlessnets.motions import Motion
from endlessnets.points import table_of
from endlessnets.resting import rest, resting_point
from endlessnets.samenesses import Sameness, beginnings, is_sameness, is_verdict, motions, same, verdict
from endlessnets.spots import is_spot, neighbours, shifted
from endlessnets.trials import trial
from endlessnets.vectors import identity, matrix_times, unimodular_inverse
from fractional import determinant, led, numbers, pairs, plus
from samples import BEADS, CHAIN, COMB, CUBE, DIAMOND, HEXAGONAL, SKEW, SQUARE, WIDE, plain, random_steady_books
from test_leastbooks import LEASTS, QUARTER, coarse_books
from test_motions import random_motion
from test_spots import some_spots, wrong_spots
from test_trials import BAD, pairs_raise
from tools import ANY_VALUES, emptied, gives_new, outcome, raised

NOT_LEAST = [(WIDE, raised("NotLeast", shift=((1, 2), (0, 1)))), (BEADS, raised("NotLeast", shift=((1, 2),)))]
MORE = [CHAIN, *LEASTS, *[book for book in random_steady_books(401, 25) if is_least(book)]]
TWISTED = plain(2, "a", [("a", "a", (1, 0)), ("a", "a", (1, 1))])
# As many places and ties, and the same measure as the net of `COMB` with a further tie, but other joins.
ONE_WAY = plain(1, "ab", [("a", "a", (1,)), ("a", "b", (0,)), ("a", "b", (1,))])


def listed(one, other):
    return list(beginnings(one, other))


def first_vector(book, motion):
    return motion.lead((book.names()[0], (0,) * book.directions))[1]


def with_false(value):
    """A value with False and True in the place of 0 and 1."""
    if isinstance(value, (list, tuple)):
        return type(value)(with_false(item) for item in value)
    return bool(value) if type(value) is int and value in (0, 1) else value


class BeginningsTest(unittest.TestCase):
    def test_beginnings(self):
        for one, other in [(book, book) for book in MORE] + [(SQUARE, SKEW), (COMB, HEXAGONAL), (DIAMOND, CUBE)]:
            self.assertIsInstance(beginnings(one, other), types.GeneratorType)
            found = listed(one, other)
            frame = tuple(numbers(step) for step in least_frames(one)[0])
            wanted = [(name, least) for name in other.names() for least in least_frames(other)]
            self.assertEqual([beginning for beginning, _, _ in found], wanted)
            self.assertEqual(wanted, sorted(set(wanted)))
            for (name, least), table, point in found:
                rows = tuple(numbers(row) for row in table)
                self.assertEqual(tuple(pairs(led(step, rows)) for step in frame), least)
                self.assertEqual(point, rest(other)[name])
            self.assertEqual(list(beginnings(other=other, one=one)), found)

    def test_raised_at_the_first_item(self):
        for one, other, error in ((WIDE, SQUARE, NOT_LEAST[0][1]), (SQUARE, CUBE, raised("Misfit")),
                                  (BAD[0][0], SQUARE, BAD[0][1])):
            waiting = beginnings(one, other)
            self.assertEqual(outcome(next, waiting), error)

    def test_errors(self):
        for function in (listed, motions):
            pairs_raise(self, function, BAD + NOT_LEAST, SQUARE)
            pairs_raise(self, function, BAD + NOT_LEAST, CUBE)
        pairs_raise(self, is_sameness, BAD + NOT_LEAST, SQUARE, None)
        self.assertEqual(outcome(listed, SQUARE, CUBE), raised("Misfit"))
        self.assertEqual(outcome(listed, CHAIN, SQUARE), raised("Misfit"))


class MotionsTest(unittest.TestCase):
    def check(self, one, other):
        found = motions(one, other)
        self.assertEqual(motions(other=other, one=one), found)
        matrices = [motion.matrix() for motion in found]
        self.assertEqual(matrices, sorted(set(matrices)))
        for motion in found:
            self.assertEqual(motion.carry(one), other)
            self.assertFalse(any(first_vector(one, motion)))
            self.assertIs(is_sameness(one, other, motion), True)
        gives_new(self, motions, one, other)
        return found

    def test_known_numbers(self):
        for book, many in ((CHAIN, 2), (SQUARE, 8), (HEXAGONAL, 12), (COMB, 12), (CUBE, 48), (DIAMOND, 48), (SKEW, 1)):
            found = self.check(book, book)
            self.assertEqual(len(found), many)
            matrices = [motion.matrix() for motion in found]
            for one, other in itertools.product(matrices[:12], matrices[-12:]):
                self.assertIn(matrix_times(one, other), matrices)
            for matrix in matrices:
                self.assertIn(unimodular_inverse(matrix), matrices)

    def test_carried_books(self):
        chance = random.Random(402)
        for book in MORE:
            motion = random_motion(chance, book.names(), book.directions)
            other = motion.carry(book)
            found = self.check(book, other)
            self.assertEqual(len(found), len(motions(book, book)))
            vector = first_vector(book, motion)
            back = Motion.shifting(other, tuple(-number for number in vector))
            self.assertIn(motion * back, found)
            self.assertEqual([standing.matrix() for standing in self.check(other, book)],
                             sorted(unimodular_inverse(standing.matrix()) for standing in found))

    def test_all_of_them(self):
        """Each map that is found by trying all small matrices and all places is in the list."""
        for book in MORE:
            size, first = book.directions, book.names()[0]
            if size == 3:
                continue
            points = {name: numbers(point) for name, point in rest(book).items()}
            found = motions(book, book)
            rows = list(itertools.product((-2, -1, 0, 1, 2), repeat=size))
            for matrix in itertools.product(rows, repeat=size):
                if determinant(matrix) not in (1, -1):
                    continue
                for name in book.names():
                    stop = trial(book, book, table_of(matrix), pairs(points[name]))
                    right = [motion for motion in found if motion.matrix() == matrix and motion.lead(
                        (first, (0,) * size)) == (name, (0,) * size)]
                    self.assertEqual(len(right), 0 if stop else 1)

    def test_none(self):
        for one, other in itertools.permutations([CHAIN, SQUARE, COMB, CUBE, DIAMOND, SKEW, ONE_WAY], 2):
            self.assertEqual(self.check(one, other), [])
        painted = COMB.with_kind("a", "other")
        self.assertEqual(self.check(painted, COMB), [])
        self.assertEqual(len(self.check(painted, painted)), 6)
        self.assertEqual(len(self.check(painted, COMB.with_kind("b", "other"))), 6)

    def test_is_sameness(self):
        chance = random.Random(403)
        for book in MORE:
            motion = random_motion(chance, book.names(), book.directions)
            other = motion.carry(book)
            self.assertIs(is_sameness(value=motion, other=other, one=book), True)
            vector = tuple(chance.randint(-9, 9) for _ in range(book.directions))
            self.assertIs(is_sameness(book, other, motion * Motion.shifting(other, vector)), True)
            self.assertIs(is_sameness(book, book, Motion.shifting(book, vector)), True)
            self.assertIs(is_sameness(other, book, ~motion), True)
            if len(book) > 1:
                name = book.names()[1]
                pictures = motion.pictures()
                pictures[name] = shifted(pictures[name], (1,) * book.directions)
                self.assertIs(is_sameness(book, other, Motion(motion.matrix(), pictures)), False)
            for value in ANY_VALUES + [motion.matrix(), motion.pictures(), (motion,), [motion], other]:
                self.assertIs(is_sameness(book, other, value), False, value)
        self.assertIs(is_sameness(SQUARE, SQUARE, Motion(((1, 1), (0, 1)), {"a": ("a", (0, 0))})), False)
        self.assertIs(is_sameness(SQUARE, SQUARE, Motion(((0, 1), (1, 0)), {"a": ("b", (0, 0))})), False)
        self.assertIs(is_sameness(SQUARE, TWISTED, Motion(((1, 1), (1, 0)), {"a": ("a", (5, 0))})), True)
        for book in (CUBE, COMB, CHAIN):
            self.assertIs(is_sameness(book, SQUARE, Motion.staying(SQUARE)), False)
            self.assertIs(is_sameness(SQUARE, book, Motion.staying(SQUARE)), False)
            self.assertIs(is_sameness(SQUARE, book, Motion.staying(book)), False)


class VerdictTest(unittest.TestCase):
    def test_words(self):
        self.assertEqual(verdict(SQUARE, CUBE), ("directions", 2, 3))
        self.assertEqual(verdict(BEADS, WIDE), ("directions", 1, 2))
        self.assertEqual(verdict(SQUARE, COMB), ("places", 1, 2))
        self.assertEqual(verdict(COMB, QUARTER), ("places", 2, 1))
        self.assertEqual(verdict(other=HEXAGONAL, one=WIDE), ("ties", 2, 3))
        other = plain(2, "a", [("a", "a", (1, 0)), ("a", "a", (0, 1)), ("a", "a", (1, 2))])
        self.assertEqual(verdict(HEXAGONAL, other), ("measure", measure(HEXAGONAL, least_frames(HEXAGONAL)[0]),
                                                     measure(other, least_frames(other)[0])))
        self.assertEqual(verdict(COMB, COMB), ("same", motions(COMB, COMB)[0]))
        painted = COMB.with_kind("b", "other").with_kind("a", "third")
        found = verdict(COMB, painted)
        self.assertEqual(found, ("breaks", [(beginning, ("kind", "a")) for beginning, _, _ in listed(COMB, painted)]))
        for one, other in ((SQUARE, CUBE), (COMB, painted), (HEXAGONAL, other)):
            if found[0] == "breaks":
                gives_new(self, verdict, one, other)

    def test_breaks(self):
        words = set()
        kinds = [("x", "x", "y"), ("x", "y", "x"), ("y", "x", "x"), ("x", "y", "z")]
        books = [Book(2, list(zip("abc", told)), SKEW.ties()) for told in kinds]
        turned = [motion.carry(SKEW) for motion in [Motion(identity(2), {"a": ("b", (0, 0)), "b": ("a", (1, 0)),
                                                                         "c": ("c", (0, 0))})]]
        changed = SKEW.without(("b", "c", (0, -2))).with_tie(("b", "c", (1, -1)))
        for one, other in itertools.product(books + turned + [changed] + MORE, repeat=2):
            found = verdict(one, other)
            words.add(found[0])
            if found[0] != "breaks":
                continue
            self.assertEqual(found[1], [(beginning, trial(one, other, table, point))
                                        for beginning, table, point in listed(one, other)])
            self.assertTrue(all(stop is not None for _, stop in found[1]))
            self.assertEqual((len(one), len(one.ties())), (len(other), len(other.ties())))
            self.check_values(one, other, found)
        self.assertEqual(words, {"directions", "places", "ties", "measure", "same", "breaks"})

    def check_values(self, one, other, found):
        """Which values are right for a verdict that is not `same`."""
        self.assertIs(is_verdict(value=found, other=other, one=one), True)
        if found[0] == "breaks":
            pairs_told = found[1]
            self.assertIs(is_verdict(one, other, ("breaks", tuple(pairs_told))), True)
            for value in (pairs_told[1:], pairs_told[::-1] if len(pairs_told) > 1 else [], pairs_told + pairs_told[:1], [],
                          [list(told) for told in pairs_told], dict(pairs_told), None, "breaks",
                          [(told[0], list(told[1])) for told in pairs_told], [(told[0], None) for told in pairs_told],
                          [told[0] for told in pairs_told], [(told[1], told[0]) for told in pairs_told],
                          with_false(pairs_told)):
                same_value = value == pairs_told and repr(value) == repr(pairs_told)
                self.assertIs(is_verdict(one, other, ("breaks", value)), same_value, value)
        for value in (list(found), found[1:], (*found, None), ("same", *found[1:]), found[:-1], [found], (), None,
                      ("breaks", *found), (found[0],), with_false(found), ("other", *found[1:])):
            self.assertIs(is_verdict(one, other, value), value == found and repr(value) == repr(found), value)
        for value in ANY_VALUES:
            self.assertIs(is_verdict(one, other, value), False)

    def test_is_verdict(self):
        for one, other in ((SQUARE, CUBE), (CHAIN, SQUARE), (SQUARE, COMB), (COMB, SQUARE), (SQUARE, HEXAGONAL),
                           (HEXAGONAL, plain(2, "a", [("a", "a", (1, 0)), ("a", "a", (0, 1)), ("a", "a", (1, 2))])),
                           (COMB, COMB.with_kind("b", "other").with_kind("a", "third"))):
            self.check_values(one, other, verdict(one, other))

    def test_same(self):
        for one, other in ((SQUARE, WIDE), (QUARTER, TWISTED), (COMB, COMB), (DIAMOND, DIAMOND), (BEADS, CHAIN)):
            least, others = LeastBook(one).book, LeastBook(other).book
            found = motions(least, others)
            self.assertEqual(verdict(one, other), ("same", found[0]))
            for motion in found[::5] + found[-1:]:
                self.assertIs(is_verdict(one, other, ("same", motion)), True)
                self.assertIs(is_verdict(one, other, ["same", motion]), False)
                self.assertIs(is_verdict(one, other, ("same", motion, None)), False)
                self.assertIs(is_verdict(one, other, ("breaks", motion)), False)
                beside = motion * Motion.shifting(others, (1,) * others.directions)
                self.assertIs(is_verdict(one, other, ("same", beside)), False)
            wrong = None
            matrix = tuple(tuple(3 * (row == at + 1) + (row == at) for at in range(others.directions))
                           for row in range(others.directions))
            if others.directions > 1:
                wrong = Motion(matrix, found[0].pictures())
                self.assertIs(is_verdict(one, other, ("same", wrong)), False)
            more = ANY_VALUES if one == SQUARE else []
            for value in more + [found[0], found, ("breaks", []), ("breaks", ()), verdict(SQUARE, CUBE), wrong]:
                self.assertIs(is_verdict(one, other, value), False)
                self.assertIs(is_verdict(one, other, ("same", value)), isinstance(value, Motion) and value in found)

    def test_told_in_other_ways(self):
        chance = random.Random(404)
        for book, lattice, coarse in coarse_books(405, 25):
            found = verdict(book, coarse)
            self.assertEqual(found[0], "same")
            motion = found[1]
            self.assertEqual(motion.carry(book), LeastBook(coarse).book)
            again = CoarseBook(book, chance.choice(list(sublattices(book.directions, 2)))).book
            self.assertEqual(verdict(again, coarse)[0], "same")
            self.assertIs(is_verdict(again, coarse, verdict(again, coarse)), True)

    def test_errors(self):
        pairs_raise(self, verdict, BAD, SQUARE)
        pairs_raise(self, verdict, BAD, CUBE)
        pairs_raise(self, is_verdict, BAD, WIDE, None)
        pairs_raise(self, same, BAD, SQUARE)
        pairs_raise(self, same, BAD, SQUARE, kinds=False)


class SamenessTest(unittest.TestCase):
    def check(self, found, one, other):
        self.assertEqual((found.one, found.other), (one, other))
        self.assertIs(is_sameness(LeastBook(one).book, LeastBook(other).book, found.motion), True)
        self.assertEqual(repr(found), f"Sameness({len(one)} and {len(other)} places)")
        table, point = found.affine()
        rows = tuple(numbers(row) for row in table)
        self.assertNotEqual(determinant(rows), 0)
        for spot in some_spots(one, 406):
            led_spot = found.lead(spot=spot)
            self.assertIs(is_spot(other, led_spot), True)
            self.assertEqual(found.back(spot=led_spot), spot)
            self.assertEqual(one.kind(spot[0]), other.kind(led_spot[0]))
            self.assertEqual(sorted(found.lead(near) for near in neighbours(one, spot)), neighbours(other, led_spot))
            self.assertEqual(numbers(resting_point(other, led_spot)),
                             plus(led(numbers(resting_point(one, spot)), rows), numbers(point)))
        inverse = found.inverse()
        self.assertEqual((inverse.one, inverse.other, inverse.motion), (other, one, ~found.motion))
        self.assertTrue(inverse.inverse() == found)
        for spot in some_spots(other, 407):
            self.assertEqual(found.lead(found.back(spot)), spot)
            self.assertEqual(inverse.lead(spot), found.back(spot))

    def test_same(self):
        for book, _, coarse in coarse_books(408, 20):
            self.check(same(book, coarse), book, coarse)
            self.check(same(other=book, one=coarse), coarse, book)
            self.check(same(coarse, coarse, kinds=True), coarse, coarse)

    def test_shifted_motions(self):
        chance = random.Random(409)
        for one, other in ((SQUARE, WIDE), (WIDE, QUARTER), (COMB, COMB), (BEADS, CHAIN)):
            least, others = LeastBook(one).book, LeastBook(other).book
            for motion in motions(least, others):
                vector = tuple(chance.randint(-9, 9) for _ in range(others.directions))
                self.check(Sameness(motion=motion * Motion.shifting(others, vector), other=other, one=one), one, other)

    def test_without_kinds(self):
        painted = COMB.with_kind("b", "other").with_kind("a", "third")
        self.assertIsNone(same(COMB, painted))
        self.assertIsNone(same(COMB, painted, kinds=True))
        self.check(same(COMB, painted, kinds=False), COMB, painted.in_one_kind())
        self.check(same(WIDE.with_kind("ab", "other"), SQUARE, kinds=False), WIDE, SQUARE)
        self.assertIsNone(same(WIDE.with_kind("ab", "other"), SQUARE))
        self.assertIsNone(same(SQUARE, CUBE, kinds=False))
        self.assertIsNone(same(SQUARE, CUBE))
        self.assertRaises(TypeError, same, SQUARE, SQUARE, False)

    def test_equality(self):
        one = Sameness(SQUARE, WIDE, motions(SQUARE, LeastBook(WIDE).book)[0])
        again = Sameness(copy.deepcopy(SQUARE), Book.read(WIDE.text()), motions(SQUARE, LeastBook(WIDE).book)[0])
        self.assertTrue(one == again)
        self.assertFalse(one != again)
        others = [Sameness(SQUARE, WIDE, motions(SQUARE, LeastBook(WIDE).book)[1]), one.inverse(), one.motion,
                  Sameness(SQUARE, SQUARE, motions(SQUARE, SQUARE)[0]), *ANY_VALUES]
        for other in others:
            self.assertFalse(one == other)
            self.assertTrue(one != other)
        renamed = Sameness(SQUARE, Motion(identity(2), {"a": ("b", (0, 0))}).carry(SQUARE),
                           Motion(identity(2), {"a": ("b", (0, 0))}))
        self.assertFalse(renamed == Sameness(SQUARE, SQUARE, Motion.staying(SQUARE)))
        self.assertEqual(repr(renamed), "Sameness(1 and 1 places)")
        # Books with one least book differ, though the motions are equal.
        staying = Motion.staying(SQUARE)
        wide = plain(2, "ab", [tuple(name[-1] for name in tie[:2]) + tie[2:] for tie in WIDE.ties()])
        self.assertEqual(LeastBook(wide).book, SQUARE)
        told = [Sameness(one, other, staying) for one in (SQUARE, wide) for other in (SQUARE, wide)]
        for one, other in itertools.product(told, repeat=2):
            self.assertIs(one == other, one is other)

    def test_errors(self):
        pairs_raise(self, Sameness, BAD, SQUARE, None)
        pairs_raise(self, Sameness, BAD, CUBE, Motion.staying(SQUARE))
        for value in ANY_VALUES + [Motion.staying(WIDE), Motion.staying(CUBE), Motion.staying(SQUARE), identity(2),
                                   Motion(((1, 3), (0, 1)), {"a": ("aa", (0, 0))})]:
            self.assertEqual(outcome(Sameness, SQUARE, WIDE, value), raised("Misfit"), value)
        self.assertEqual(outcome(Sameness, SQUARE, CUBE, Motion.staying(SQUARE)), raised("Misfit"))
        found = same(SQUARE, WIDE)
        for value in ANY_VALUES + wrong_spots(SQUARE) + [("ab", (0,)), ("ab", [0, 0])]:
            if value != ("a", (0, 0)):
                self.assertEqual(outcome(found.lead, value), raised("UnknownSpot", spot=value))
            self.assertEqual(outcome(found.back, value), raised("UnknownSpot", spot=value))
        self.assertEqual(outcome(found.lead, ("ab", (0, 0))), raised("UnknownSpot", spot=("ab", (0, 0))))
        self.assertEqual(outcome(found.back, ("a", (0, 0))), raised("UnknownSpot", spot=("a", (0, 0))))

    def test_objects_stay(self):
        pictures = motions(SQUARE, SQUARE)[0].pictures()
        motion = Motion(motions(SQUARE, SQUARE)[0].matrix(), pictures)
        found = Sameness(SQUARE, SQUARE, motion)
        emptied(pictures)
        self.assertEqual(found.lead(("a", (1, 2))), motion.lead(("a", (1, 2))))
        self.assertEqual(found.motion, motion)
        self.assertEqual(CoarseBook(SQUARE, Lattice(2, identity(2))).book.ties(), [("aa", "aa", (0, 1)), ("aa", "aa", (1, 0))])


if __name__ == "__main__":
    unittest.main()
