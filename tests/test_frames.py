"""Steps, frames and measures ([25])."""

import itertools
import random
import unittest

from endlessnets.frames import is_frame, least_frames, measure, steps
from endlessnets.leastbooks import is_least
from endlessnets.resting import rest
from endlessnets.shapes import shape
from fractional import determinant, dot, led, numbers, pairs, steps_of
from samples import BEADS, CHAIN, COMB, CUBE, DIAMOND, FALLING, HEXAGONAL, LADDER, SKEW, SQUARE, TREE, WHOLE, plain
from samples import random_steady_books, random_whole_books
from test_motions import random_motion
from tools import ANY_VALUES, falls_first, gives_new

BOOKS = [book for book in WHOLE + random_whole_books(390, 30) if len(book.ties()) ** book.directions < 500]


def steps_by_hand(book):
    found = steps_of(book, {name: numbers(point) for name, point in rest(book).items()})
    return sorted({pairs(step) for step in found.values()})


def products_by_hand(book):
    """The products of all pairs of steps."""
    table = tuple(numbers(row) for row in shape(book))
    found = {step: numbers(step) for step in steps_by_hand(book)}
    images = {step: led(found[step], table) for step in found}
    return {(one, other): dot(images[one], found[other]) for one in found for other in found}


def measure_by_hand(products, frame):
    return tuple(products[frame[one], frame[other]] for other in range(len(frame)) for one in range(other + 1))


def all_frames(book):
    found = [(step, numbers(step)) for step in steps_by_hand(book)]
    return [tuple(step for step, _ in rows) for rows in itertools.product(found, repeat=book.directions)
            if determinant(tuple(row for _, row in rows)) != 0]


class StepsTest(unittest.TestCase):
    def test_steps(self):
        for book in BOOKS:
            found = steps(book=book)
            self.assertEqual(found, steps_by_hand(book))
            self.assertEqual(found, sorted(set(found)))
            gives_new(self, steps, book)
        self.assertEqual(steps(CHAIN), [((-1, 1),), ((1, 1),)])
        self.assertEqual(steps(LADDER), [((-1, 1),), ((0, 1),), ((1, 1),)])
        self.assertEqual(steps(BEADS), [((-1, 4),), ((1, 4),)])
        self.assertEqual(steps(COMB), sorted([((-1, 3), (-1, 3)), ((-1, 3), (2, 3)), ((2, 3), (-1, 3)),
                                              ((1, 3), (1, 3)), ((1, 3), (-2, 3)), ((-2, 3), (1, 3))]))

    def test_first_of_all(self):
        for function, more in ((steps, ()), (least_frames, ()), (is_frame, (None,)), (measure, (((((0, 1),),),)))):
            falls_first(self, function, *more, falling=FALLING)


class FrameTest(unittest.TestCase):
    def test_measure(self):
        chance = random.Random(391)
        for book in BOOKS:
            frames = all_frames(book)
            products = products_by_hand(book)
            for frame in chance.sample(frames, min(9, len(frames))):
                found = measure(book, frame)
                self.assertEqual(numbers(found), measure_by_hand(products, frame))
                self.assertEqual(len(found), book.directions * (book.directions + 1) // 2)
                self.assertEqual(measure(frame=frame, book=book), found)
        frame = (((1, 1), (0, 1), (0, 1)), ((0, 1), (-1, 1), (0, 1)), ((0, 1), (0, 1), (1, 1)))
        self.assertEqual(measure(CUBE, frame), ((1, 1), (0, 1), (1, 1), (0, 1), (0, 1), (1, 1)))
        self.assertEqual(measure(COMB, (((1, 3), (1, 3)), ((1, 3), (-2, 3)))), ((2, 3), (-1, 3), (2, 3)))
        mixed = (((1, 1), (0, 1)), ((1, 1), (1, 1)))
        self.assertEqual(measure(HEXAGONAL, mixed), ((2, 3), (1, 3), (2, 3)))

    def test_is_frame(self):
        for book in BOOKS:
            frames = all_frames(book)
            known = steps_by_hand(book)
            for frame in frames[:9] + frames[-9:]:
                self.assertIs(is_frame(book, frame), True)
                self.assertIs(is_frame(value=list(frame), book=book), False)
                self.assertIs(is_frame(book, frame[1:]), False)
                self.assertIs(is_frame(book, (*frame, frame[0])), False)
                self.assertIs(is_frame(book, (list(frame[0]), *frame[1:])), False)
                self.assertIs(is_frame(book, (None, *frame[1:])), False)
                other_form = tuple((2 * over, 2 * under) for over, under in frame[0])
                self.assertIs(is_frame(book, (other_form, *frame[1:])), False)
            for frame in itertools.product(known, repeat=book.directions):
                if len(known) < 12:
                    self.assertIs(is_frame(book, frame), frame in frames)

    def test_other_values(self):
        for book in (CHAIN, COMB, CUBE, TREE):
            for value in ANY_VALUES + [steps(book), tuple(steps(book))]:
                self.assertIs(is_frame(book, value), False, value)
        self.assertIs(is_frame(CHAIN, (((1, 1),),)), True)
        for value in ((((True, 1),),), (((1, True),),), (((2, 2),),), (((2, 1),),), ((1,),), (((0, 1),),), [((1, 1),)]):
            self.assertIs(is_frame(CHAIN, value), False, value)
        self.assertIs(is_frame(LADDER, (((0, 1),),)), False)
        one, other = ((1, 1), (0, 1)), ((0, 1), (1, 1))
        self.assertEqual([is_frame(SQUARE, frame) for frame in ((one, other), (other, one), (one, one), (
            one, ((-1, 1), (0, 1))), (one, ((1, 1), (1, 1))), (one,), (one, other, one))],
            [True, True, False, False, False, False, False])
        flat = (((1, 1), (0, 1), (0, 1)), ((0, 1), (1, 1), (0, 1)), ((1, 1), (1, 1), (0, 1)))
        net = CUBE.with_tie(("a", "a", (1, 1, 0)))
        self.assertIs(is_frame(net, flat), False)
        self.assertIs(is_frame(net, (*flat[:2], ((0, 1), (0, 1), (-1, 1)))), True)


class LeastFramesTest(unittest.TestCase):
    def test_least_frames(self):
        for book in BOOKS + random_steady_books(392, 20):
            if len(steps_by_hand(book)) ** book.directions > 3000:
                continue
            products = products_by_hand(book)
            measures = {frame: measure_by_hand(products, frame) for frame in all_frames(book)}
            least = min(measures.values())
            found = least_frames(book=book)
            self.assertEqual(found, sorted(frame for frame in measures if measures[frame] == least))
            gives_new(self, least_frames, book)

    def test_by_hand(self):
        self.assertEqual(least_frames(CHAIN), [(((-1, 1),),), (((1, 1),),)])
        self.assertEqual([len(least_frames(book)) for book in (SQUARE, CUBE, DIAMOND, COMB, HEXAGONAL)],
                         [8, 48, 48, 12, 12])
        self.assertEqual(least_frames(LADDER), [(((-1, 1),),), (((1, 1),),)])
        # The products are compared by value: as tuples (-1, 3) is above (-1, 2), and (2, 9) is above (1, 2).
        net = plain(2, "a", [("a", "a", (1, 0)), ("a", "a", (0, 1)), ("a", "a", (2, 1)), ("a", "a", (1, -3))])
        products = products_by_hand(net)
        measures = {frame: measure_by_hand(products, frame) for frame in all_frames(net)}
        self.assertEqual(least_frames(net), sorted(frame for frame in measures if measures[frame] == min(measures.values())))
        # Opposite steps have the least product, but no frame has both.
        self.assertEqual(measure(SQUARE, least_frames(SQUARE)[0]), ((1, 1), (0, 1), (1, 1)))
        self.assertEqual(measure(HEXAGONAL, least_frames(HEXAGONAL)[0]), ((2, 3), (-1, 3), (2, 3)))

    def test_carried(self):
        chance = random.Random(393)
        for book in random_steady_books(394, 20) + [SKEW, COMB, DIAMOND]:
            if not is_least(book):
                continue
            motion = random_motion(chance, book.names(), book.directions)
            carried = motion.carry(book)
            frames = sorted(tuple(pairs(led(numbers(step), motion.matrix())) for step in frame)
                            for frame in least_frames(book))
            self.assertEqual(least_frames(carried), frames)
            self.assertEqual(measure(carried, frames[0]), measure(book, least_frames(book)[0]))


if __name__ == "__main__":
    unittest.main()
