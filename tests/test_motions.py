"""Motions ([8])."""

import copy
import itertools
import random
import unittest

from endlessnets.books import Book
from endlessnets.motions import Motion
from endlessnets.spots import are_joined, neighbours
from endlessnets.vectors import identity, led, matrix_times, power, unimodular_inverse
from samples import ALL, COMB, SLANTED, SQUARE, random_books
from test_spots import plus, some_spots
from test_vectors import NO_UNIMODULAR, random_unimodular
from tools import ANY_VALUES, outcome, raised

BIG = 10 ** 39 + 7


def random_motion(chance, names, directions, others=None):
    """A motion for these names, to other names or the same ones in another order."""
    others = list(names) if others is None else list(others)
    chance.shuffle(others)
    pictures = {name: (other, tuple(chance.randint(-5, 5) for _ in range(directions)))
                for name, other in zip(names, others)}
    return Motion(random_unimodular(chance, directions), pictures)


class ConstructorTest(unittest.TestCase):
    def test_matrices(self):
        for value in NO_UNIMODULAR + [value for value in ANY_VALUES if value not in [((1, 0), (0, 1)), ((1,),)]]:
            for pictures in ({"a": ("a", (0,))}, None, {}):
                self.assertEqual(outcome(Motion, value, pictures), raised("InvalidMatrix"), value)

    def test_no_pictures(self):
        for value in ANY_VALUES:
            if not isinstance(value, dict) or not value:
                self.assertEqual(outcome(Motion, identity(2), value), raised("InvalidPictures", name=""))

    def test_wrong_pictures(self):
        right = ("b", (0, 0))
        for value in ANY_VALUES + [("a", (0,)), ("a", (0, 0, 0)), ("", (0, 0)), ["a", (0, 0)], ("a", (0, True)),
                                   ("abcdefg", (0, 0)), ("a", (0, 0), 1)]:
            if value != ("a", (0, 0)):
                self.assertEqual(outcome(Motion, identity(2), {"z": None, "c": value, "a": right}),
                                 raised("InvalidPictures", name="c"), value)
        for name in ("", "A", "abcdefg", "a b", "a\n"):
            self.assertEqual(outcome(Motion, identity(2), {name: right}), raised("InvalidPictures", name=name))

    def test_the_least_key_first(self):
        right = ("b", (0, 0))
        self.assertEqual(outcome(Motion, identity(2), {"b": right, "c": right, "a": right}),
                         raised("InvalidPictures", name="b"))
        self.assertEqual(outcome(Motion, identity(2), {"c": ("b", (1, 1)), "b": ("q", (0, 0)), "a": right}),
                         raised("InvalidPictures", name="c"))
        self.assertEqual(outcome(Motion, identity(2), {"b": right, "a": right, "Z": right}),
                         raised("InvalidPictures", name="Z"))
        for order in itertools.permutations([("a", None), ("b", right), ("c", 5), ("d", right)]):
            self.assertEqual(outcome(Motion, identity(2), dict(order)), raised("InvalidPictures", name="a"))

    def test_answers(self):
        motion = Motion(pictures={"b": ("q", (1, 2)), "a": ("b", (0, -1))}, matrix=((0, 1), (-1, 0)))
        self.assertEqual(motion.matrix(), ((0, 1), (-1, 0)))
        self.assertEqual(motion.pictures(), {"a": ("b", (0, -1)), "b": ("q", (1, 2))})
        self.assertEqual(list(motion.pictures()), ["a", "b"])
        self.assertEqual(motion.determinant, 1)
        self.assertEqual(Motion(((1, 0), (3, -1)), {"a": ("a", (0, 0))}).determinant, -1)
        self.assertEqual(repr(motion), "Motion(2 directions, 2 places)")
        self.assertEqual(repr(Motion(((1,),), {"a": ("a", (0,))})), "Motion(1 directions, 1 places)")
        with self.assertRaises(AttributeError):
            motion.determinant = 5

    def test_passed_and_returned_dicts(self):
        pictures = {"b": ("b", (1,)), "a": ("a", (0,))}
        passed = copy.deepcopy(pictures)
        motion = Motion(((1,),), pictures)
        self.assertEqual(list(pictures.items()), list(passed.items()))
        pictures.clear()
        motion.pictures().clear()
        self.assertEqual(motion.pictures(), passed)


class LeadTest(unittest.TestCase):
    def test_lead(self):
        motion = Motion(((0, 1), (-1, 0)), {"a": ("b", (10, 20)), "b": ("q", (1, 2))})
        self.assertEqual(motion.lead(("a", (3, 4))), ("b", (6, 23)))
        self.assertEqual(motion.lead(spot=("b", (0, 0))), ("q", (1, 2)))
        self.assertEqual(motion.lead(("a", (BIG, 0))), ("b", (10, 20 + BIG)))

    def test_unknown_spots(self):
        motion = Motion(((0, 1), (-1, 0)), {"a": ("b", (10, 20)), "b": ("q", (1, 2))})
        for value in ANY_VALUES + [("q", (0, 0)), ("a", (0,)), ("a", (0, 0, 0)), ["a", (0, 0)], ("a", (0, True))]:
            if value != ("a", (0, 0)):
                self.assertEqual(outcome(motion.lead, value), raised("UnknownSpot", spot=value), value)

    def test_staying_and_shifting(self):
        for book in ALL:
            staying = Motion.staying(book)
            self.assertEqual(staying.matrix(), identity(book.directions))
            shift = tuple(range(-1, book.directions - 1))
            shifting = Motion.shifting(vector=shift, book=book)
            for spot in some_spots(book, 61):
                self.assertEqual(staying.lead(spot), spot)
                self.assertEqual(shifting.lead(spot), (spot[0], plus(spot[1], shift)))
            self.assertEqual(shifting.carry(book), book)
            self.assertEqual(staying, Motion.staying(book=book))
            self.assertEqual(list(shifting.pictures()), book.names())
        for value in ANY_VALUES + [(1,), (1, 2, 3), [1, 2], (1, True)]:
            numbers = isinstance(value, tuple) and len(value) == 2 and all(type(item) is int for item in value)
            if not numbers:
                self.assertEqual(outcome(Motion.shifting, SQUARE, value), raised("InvalidVector", at=0), value)


class CarryTest(unittest.TestCase):
    def test_fits(self):
        motion = Motion.staying(COMB)
        self.assertIs(motion.fits(COMB), True)
        self.assertIs(motion.fits(book=COMB.with_kind("a", "leaf")), True)
        misfits = [COMB.with_place("c"), COMB.without_place("b"), SQUARE, Book(1, [("a", "node"), ("b", "node")]),
                   Book(2, [("a", "node"), ("c", "node")])]
        for book in misfits:
            self.assertIs(motion.fits(book), False)
            self.assertEqual(outcome(motion.carry, book), raised("Misfit"))

    def test_carried_and_carried_back(self):
        chance = random.Random(62)
        for book in ALL + random_books(63):
            names = ["q", "r", "s", "t", "u", "v"][:len(book)]
            motion = random_motion(chance, book.names(), book.directions, names)
            before = book.text()
            carried = motion.carry(book)
            self.assertEqual(book.text(), before)
            self.assertEqual(carried.names(), sorted(names))
            for name, kind in book.places():
                self.assertEqual(carried.kind(motion.pictures()[name][0]), kind)
            self.assertEqual(len(carried.ties()), len(book.ties()))
            for spot in some_spots(book, 64):
                found = sorted(motion.lead(near) for near in neighbours(book, spot))
                self.assertEqual(found, neighbours(carried, motion.lead(spot)))
                for near in found:
                    self.assertTrue(are_joined(carried, motion.lead(spot), near))
            self.assertEqual((~motion).carry(carried), book)
            self.assertEqual((~motion).carry(book=carried).text(), before)
        turn = Motion(((0, 1), (-1, 0)), {"a": ("z", (3, 4))})
        self.assertEqual(turn.carry(SQUARE).ties(), [("z", "z", (0, 1)), ("z", "z", (1, 0))])


class ProductTest(unittest.TestCase):
    def test_one_then_other(self):
        chance = random.Random(65)
        for directions in (1, 2, 3):
            names, middle, last = ["a", "b", "c"], ["d", "e", "f"], ["x", "y", "z"]
            one = random_motion(chance, names, directions, middle)
            other = random_motion(chance, middle, directions, last)
            both = one * other
            self.assertEqual(both.matrix(), matrix_times(one.matrix(), other.matrix()))
            self.assertEqual(list(both.pictures()), names)
            for name in names:
                spot = (name, tuple(chance.randint(-BIG, BIG) for _ in range(directions)))
                self.assertEqual(both.lead(spot), other.lead(one.lead(spot)))
                self.assertEqual((~both).lead(both.lead(spot)), spot)
                self.assertEqual((~one).lead(one.lead(spot)), spot)
            self.assertEqual(~both, ~other * ~one)
            self.assertEqual(~~both, both)
            self.assertEqual((~one).matrix(), unimodular_inverse(one.matrix()))
            self.assertEqual(list((~one).pictures()), sorted((~one).pictures()))

    def test_misfit(self):
        one = Motion(((1,),), {"a": ("b", (0,)), "b": ("c", (0,))})
        for pictures in ({"a": ("a", (0,)), "b": ("b", (0,))}, {"b": ("b", (0,))},
                         {name: (name, (0,)) for name in "bcd"}):
            self.assertEqual(outcome(lambda: one * Motion(((1,),), pictures)), raised("Misfit"))
        wide = Motion(identity(2), {name: (name, (0, 0)) for name in "bc"})
        self.assertEqual(outcome(lambda: one * wide), raised("Misfit"))
        self.assertEqual((one * Motion(((1,),), {"b": ("x", (5,)), "c": ("y", (6,))})).pictures(),
                         {"a": ("x", (5,)), "b": ("y", (6,))})

    def test_repeated(self):
        chance = random.Random(66)
        for directions in (1, 2, 3):
            motion = random_motion(chance, ["a", "b", "c"], directions)
            self.assertEqual(motion.repeated(1), motion)
            self.assertEqual(motion.repeated(-1), ~motion)
            spots = {(name, (2,) * directions): (name, (2,) * directions) for name in "abc"}
            for times in range(1, 101):
                spots = {spot: motion.lead(picture) for spot, picture in spots.items()}
                if times in (2, 3, 50, 100):
                    for spot, picture in spots.items():
                        self.assertEqual(motion.repeated(times=times).lead(spot), picture)
                        self.assertEqual(motion.repeated(-times).lead(picture), spot)
                    self.assertEqual(motion.repeated(times).matrix(), power(motion.matrix(), times))
            nothing = motion.repeated(0)
            self.assertEqual(nothing.matrix(), identity(directions))
            self.assertEqual(nothing.pictures(), {name: (name, (0,) * directions) for name in "abc"})

    def test_errors_of_repeated(self):
        motion = Motion(((1,),), {"a": ("a", (1,))})
        moving = Motion(((1,),), {"a": ("b", (1,))})
        for value in [101, -101, BIG, True] + [value for value in ANY_VALUES if type(value) is not int]:
            self.assertEqual(outcome(motion.repeated, value), raised("InvalidNumber", value=value))
            self.assertEqual(outcome(moving.repeated, value), raised("Misfit"))
        for value in (0, 1, -1):
            self.assertEqual(outcome(moving.repeated, value), raised("Misfit"))

    def test_equal(self):
        motion = Motion(((0, 1), (1, 0)), {"a": ("b", (1, 2)), "b": ("a", (0, 0))})
        same = Motion(((0, 1), (1, 0)), {"b": ("a", (0, 0)), "a": ("b", (1, 2))})
        self.assertTrue(motion == same)
        self.assertFalse(motion != same)
        others = [Motion(identity(2), motion.pictures()), Motion(motion.matrix(), {"a": ("b", (1, 2))}),
                  Motion(motion.matrix(), {"a": ("b", (1, 3)), "b": ("a", (0, 0))})]
        for other in others + ANY_VALUES + [(motion.matrix(), motion.pictures())]:
            self.assertFalse(motion == other)
            self.assertTrue(motion != other)

    def test_nothing_changes(self):
        motion = random_motion(random.Random(67), ["a", "b", "c"], 2)
        before = (motion.matrix(), motion.pictures())
        motion * motion
        ~motion
        motion.repeated(5)
        motion.carry(SLANTED)
        motion.lead(("a", (1, 1)))
        self.assertEqual((motion.matrix(), motion.pictures()), before)
        self.assertEqual(led((1, 0), motion.matrix()), motion.matrix()[0])


if __name__ == "__main__":
    unittest.main()
