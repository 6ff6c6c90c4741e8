"""Turns, mirrors, orbits, holders, offset points and still points ([29] to [31])."""

import itertools
import random
import unittest

from endlessnets.books import standard
from endlessnets.flows import calm_flow
from endlessnets.leastbooks import is_least
from endlessnets.motions import Motion
from endlessnets.resting import resting_point
from endlessnets.rings import ring_numbers
from endlessnets.samenesses import is_sameness, motions
from endlessnets.shapes import pull_table, shape, tie_squares
from endlessnets.spots import shells
from endlessnets.turns import holders, is_handed, mirrors, offset_point, place_orbits, standard_motion, still_point
from endlessnets.turns import tie_orbits, turns
from endlessnets.vectors import determinant, identity, matrix_times, order_of, unimodular_inverse
from fractional import led, numbers, pairs, plus
from samples import CHAIN, COMB, CUBE, DIAMOND, FALLING, HEXAGONAL, SKEW, SQUARE, plain, random_steady_books
from test_leastbooks import LEASTS
from test_motions import random_motion
from test_samenesses import NOT_LEAST
from test_spots import some_spots
from test_trials import BAD
from tools import ANY_VALUES, falls_first, gives_new, outcome, raised

KAGOME = plain(2, "abc", [("a", "b", (0, 0)), ("b", "c", (0, 0)), ("c", "a", (0, 0)), ("a", "b", (-1, 0)),
                          ("b", "c", (1, -1)), ("c", "a", (0, 1))])
PAINTED = COMB.with_kind("b", "other")
# Its places lie behind one another along the third direction, with ties to three sides.
SCREW = plain(3, "abc", [("a", "a", (1, 0, 0)), ("b", "b", (0, 1, 0)), ("c", "c", (1, 1, 0)), ("a", "b", (0, 0, 0)),
                         ("b", "c", (0, 0, 0)), ("c", "a", (0, 0, 1))])
BOOKS = [*LEASTS, CHAIN, KAGOME, PAINTED, SCREW, *[book for book in random_steady_books(511, 25) if is_least(book)]]
KNOWN = [(CHAIN, 2), (SQUARE, 8), (HEXAGONAL, 12), (COMB, 12), (KAGOME, 12), (CUBE, 48), (DIAMOND, 48), (SKEW, 1),
         (PAINTED, 6)]
ALONE = [turns, mirrors, is_handed, place_orbits, tie_orbits]


def own_motions(book, seed):
    """Samenesses of a net with itself: turns and shifts behind them."""
    chance = random.Random(seed)
    found = turns(book)
    vectors = [tuple(chance.randint(-9, 9) for _ in range(book.directions)) for _ in found]
    return found + [turn * Motion.shifting(book, vector) for turn, vector in zip(found, vectors)]


def first_picture(book, motion):
    return motion.lead((book.names()[0], (0,) * book.directions))


class TurnsTest(unittest.TestCase):
    def test_known_numbers(self):
        for book, many in KNOWN:
            self.assertEqual(len(turns(book=book)), many, book.text())

    def test_turns(self):
        for book in BOOKS:
            found = turns(book)
            matrices = [turn.matrix() for turn in found]
            self.assertEqual(found, motions(book, book))
            self.assertEqual(matrices, sorted(set(matrices)))
            self.assertIn(identity(book.directions), matrices)
            self.assertEqual({1: 2, 2: 24, 3: 48}[book.directions] % len(found), 0)
            for turn in found:
                self.assertEqual(turn.carry(book), book)
                self.assertFalse(any(first_picture(book, turn)[1]))
                self.assertIn(order_of(turn.matrix()), (1, 2, 3, 4, 6))
                self.assertIn(unimodular_inverse(turn.matrix()), matrices)
            gives_new(self, turns, book)

    def test_group(self):
        for book in (SQUARE, HEXAGONAL, KAGOME, DIAMOND, SKEW, SCREW):
            found = turns(book)
            for one, other in itertools.product(found[:12], found[-12:]):
                both = standard_motion(book, one * other)
                self.assertIn(both, found)
                self.assertEqual(both.matrix(), matrix_times(one.matrix(), other.matrix()))
            for turn in found:
                self.assertIn(standard_motion(book, ~turn), found)

    def test_what_turns_keep(self):
        for book in BOOKS:
            pull = [numbers(row) for row in pull_table(book)]
            form = [numbers(row) for row in shape(book)]
            squares = tie_squares(book)
            for turn in turns(book)[::7]:
                matrix = turn.matrix()
                turned = tuple(zip(*matrix))
                self.assertEqual([led(led(row, pull), matrix) for row in turned], pull)
                self.assertEqual([led(led(row, form), turned) for row in matrix], form)
                for tie in book.ties():
                    one, other = turn.lead((tie[0], (0,) * book.directions)), turn.lead((tie[1], tie[2]))
                    image = standard((one[0], other[0], tuple(b - a for a, b in zip(one[1], other[1]))))
                    self.assertEqual(squares[image], squares[tie])
                for spot in some_spots(book, 512)[:2]:
                    wanted = [sorted(turn.lead(near) for near in shell) for shell in shells(book, spot, 3)]
                    self.assertEqual(list(shells(book, turn.lead(spot), 3)), wanted)

    def test_calm_flows_and_rings_are_kept(self):
        for book in BOOKS[::2]:
            drift = tuple((2 * at - 3, 1) for at in range(book.directions))
            flow, rings = calm_flow(book, drift), ring_numbers(book)
            for turn in turns(book)[::5]:
                moved = calm_flow(book, pairs(led(numbers(drift), turn.matrix())))
                for tie in book.ties():
                    one, other = turn.lead((tie[0], (0,) * book.directions)), turn.lead((tie[1], tie[2]))
                    image = (one[0], other[0], tuple(b - a for a, b in zip(one[1], other[1])))
                    over, under = moved[standard(image)]
                    self.assertEqual((over if standard(image) == image else -over, under), flow[tie])
                    self.assertEqual(rings[standard(image)], rings[tie])

    def test_standard_motion(self):
        for book in BOOKS:
            found = turns(book)
            for motion in own_motions(book, 513):
                kept = standard_motion(book, motion)
                self.assertIn(kept, found)
                self.assertEqual(kept.matrix(), motion.matrix())
                self.assertEqual(standard_motion(motion=motion, book=book), kept)

    def test_mirrors(self):
        for book in BOOKS:
            found = [turn for turn in turns(book) if determinant(turn.matrix()) == -1]
            self.assertEqual(mirrors(book=book), found)
            self.assertIs(is_handed(book=book), not found)
            self.assertIn(len(found), (0, len(turns(book)) // 2))
            gives_new(self, mirrors, book)
        self.assertEqual([is_handed(book) for book in (CHAIN, SQUARE, CUBE, DIAMOND, SKEW)],
                         [False, False, False, False, True])

    def test_first_of_all(self):
        calls = [(function, ()) for function in ALONE] + [(holders, (None,))]
        calls += [(function, (None,)) for function in (standard_motion, offset_point, still_point)]
        for function, more in calls:
            falls_first(self, function, *more, falling=FALLING)
            for book, error in BAD + NOT_LEAST:
                self.assertEqual(outcome(function, book, *more), error)

    def test_motions_that_are_none(self):
        wrong = [Motion(((1, 1), (0, 1)), {"a": ("a", (0, 0))}), Motion(((0, 1), (1, 0)), {"a": ("b", (0, 0))}),
                 Motion.staying(COMB), Motion.staying(CUBE), Motion.staying(SQUARE).matrix(), [Motion.staying(SQUARE)]]
        for function in (standard_motion, offset_point, still_point):
            for value in ANY_VALUES + wrong:
                self.assertEqual(outcome(function, SQUARE, value), raised("Misfit"), value)
        self.assertFalse(is_sameness(SQUARE, SQUARE, wrong[0]))


class OrbitTest(unittest.TestCase):
    def test_places(self):
        for book in BOOKS:
            found = place_orbits(book=book)
            self.assertEqual(found, sorted(sorted(orbit) for orbit in found))
            self.assertEqual(sorted(itertools.chain(*found)), book.names())
            for orbit in found:
                for name in book.names():
                    alike = any(turn.lead((orbit[0], (0,) * book.directions))[0] == name for turn in turns(book))
                    self.assertEqual(name in orbit, alike)
            gives_new(self, place_orbits, book)

    def test_ties(self):
        for book in BOOKS:
            found = tie_orbits(book=book)
            self.assertEqual(found, sorted(sorted(orbit) for orbit in found))
            self.assertEqual(sorted(itertools.chain(*found)), book.ties())
            found_turns = turns(book)
            for orbit in found:
                one, other, vector = orbit[0]
                images = set()
                for turn in found_turns:
                    start, end = turn.lead((one, (0,) * book.directions)), turn.lead((other, vector))
                    images.add(standard((start[0], end[0], tuple(b - a for a, b in zip(start[1], end[1])))))
                self.assertEqual(sorted(images), orbit)
            gives_new(self, tie_orbits, book)

    def test_by_hand(self):
        self.assertEqual(place_orbits(COMB), [["a", "b"]])
        self.assertEqual(place_orbits(PAINTED), [["a"], ["b"]])
        self.assertEqual(tie_orbits(COMB), [COMB.ties()])
        self.assertEqual(tie_orbits(SQUARE), [SQUARE.ties()])
        self.assertEqual(tie_orbits(SKEW), [[tie] for tie in SKEW.ties()])
        net = SQUARE.with_tie(("a", "a", (1, 1))).with_tie(("a", "a", (1, -1)))
        self.assertEqual(tie_orbits(net), [[("a", "a", (0, 1)), ("a", "a", (1, 0))],
                                           [("a", "a", (1, -1)), ("a", "a", (1, 1))]])

    def test_holders(self):
        for book in BOOKS:
            many = len(turns(book))
            for orbit in place_orbits(book):
                for name in orbit:
                    found = holders(name=name, book=book)
                    matrices = [motion.matrix() for motion in found]
                    self.assertEqual(matrices, sorted(set(matrices)))
                    self.assertEqual(len(orbit) * len(found), many)
                    spot = (name, (0,) * book.directions)
                    for motion in found:
                        self.assertEqual(motion.lead(spot), spot)
                        self.assertIs(is_sameness(book, book, motion), True)
            gives_new(self, holders, book, book.names()[-1])
        for value in ANY_VALUES:
            if value != "a":
                self.assertEqual(outcome(holders, SQUARE, value), raised("UnknownName", name=value))
        self.assertEqual(outcome(holders, COMB, "c"), raised("UnknownName", name="c"))


class PointTest(unittest.TestCase):
    def test_offset_points(self):
        for book in BOOKS:
            for motion in own_motions(book, 514):
                point = numbers(offset_point(motion=motion, book=book))
                for spot in some_spots(book, 515)[:4]:
                    moved = plus(led(numbers(resting_point(book, spot)), motion.matrix()), point)
                    self.assertEqual(numbers(resting_point(book, motion.lead(spot))), moved)

    def test_still_points(self):
        kinds = set()
        for book in BOOKS:
            for motion in own_motions(book, 516):
                found = still_point(motion=motion, book=book)
                around = motion.repeated(order_of(motion.matrix()))
                stays = around == Motion.staying(book)
                kinds.add((book.directions, stays, motion.determinant))
                self.assertEqual(found is not None, stays)
                self.assertEqual(around.matrix(), identity(book.directions))
                if found is not None:
                    point = numbers(found)
                    moved = plus(led(point, motion.matrix()), numbers(offset_point(book, motion)))
                    self.assertEqual(moved, point)
        for directions in (2, 3):
            self.assertTrue({(directions, True, 1), (directions, True, -1), (directions, False, 1),
                             (directions, False, -1)} <= kinds)

    def test_by_hand(self):
        self.assertEqual(still_point(CHAIN, Motion(((-1,),), {"a": ("a", (3,))})), ((3, 2),))
        self.assertIsNone(still_point(CHAIN, Motion.shifting(CHAIN, (1,))))
        self.assertEqual(offset_point(CHAIN, Motion.shifting(CHAIN, (10 ** 39,))), ((10 ** 39, 1),))
        glide = Motion(((1, 0), (0, -1)), {"a": ("a", (1, 5))})
        self.assertIsNone(still_point(SQUARE, glide))
        self.assertEqual(still_point(SQUARE, Motion(((1, 0), (0, -1)), {"a": ("a", (0, 5))}))[1], (5, 2))
        self.assertEqual(still_point(SQUARE, Motion(((0, 1), (-1, 0)), {"a": ("a", (1, 0))})), ((1, 2), (1, 2)))
        screw = Motion(((0, 1, 0), (-1, 0, 0), (0, 0, 1)), {"a": ("a", (0, 0, 1))})
        self.assertIsNone(still_point(CUBE, screw))
        self.assertEqual(offset_point(COMB, Motion.staying(COMB)), ((0, 1), (0, 1)))

    def test_carried(self):
        chance = random.Random(518)
        for book in BOOKS[::3]:
            motion = random_motion(chance, book.names(), book.directions)
            other = motion.carry(book)
            self.assertEqual(len(turns(other)), len(turns(book)))
            self.assertEqual(is_handed(other), is_handed(book))
            places = {name: motion.pictures()[name][0] for name in book.names()}
            self.assertEqual(sorted(sorted(places[name] for name in orbit) for orbit in place_orbits(book)),
                             place_orbits(other))
            self.assertEqual(sorted(len(orbit) for orbit in tie_orbits(book)),
                             sorted(len(orbit) for orbit in tie_orbits(other)))
            for turn in turns(book)[::5]:
                self.assertIs(is_sameness(other, other, ~motion * turn * motion), True)


if __name__ == "__main__":
    unittest.main()
