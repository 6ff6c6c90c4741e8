"""Flows ([15])."""

import copy
import random
import unittest
from fractions import Fraction

from endlessnets.flows import calm_flow, drift, is_balanced, is_flow, round_flow, work
from endlessnets.shapes import product, square
from endlessnets.resting import step
from fractional import numbers, pairs, plus, times
from samples import CHAIN, COMB, CUBE, FALLING, LADDER, SKEW, SQUARE, TREE, TWINNED, WHOLE, random_whole_books
from samples import turned_by_hand
from test_classes import random_walk
from test_shapes import NO_POINTS, some_point
from tools import ANY_VALUES, falls_first, gives_new, outcome, raised

BOOKS = WHOLE + random_whole_books(330, 30)


def fractions(flow):
    return {tie: numbers((item,))[0] for tie, item in flow.items()}


def flow_of(values):
    return {tie: pairs([value])[0] for tie, value in values.items()}


def left_over(book, values):
    """What goes out of the places less what comes in."""
    found = {name: Fraction(0) for name in book.names()}
    for (one, other, _), value in values.items():
        found[one] += value
        found[other] -= value
    return found


def drift_by_hand(book, values):
    result = (Fraction(0),) * book.directions
    for tie, value in values.items():
        result = plus(result, times(tie[2], value))
    return result


def closed_walk(chance, book, name, steps):
    """A closed path: a walk, and then another way back to its place, or the same one."""
    path, spot = random_walk(chance, book, (name, (0,) * book.directions), steps)
    while spot[0] != name:
        more, spot = random_walk(chance, book, spot, 1)
        path += more
    return path


def random_flow(chance, book, bound=9):
    return {tie: Fraction(chance.randint(-bound, bound), chance.randint(1, bound)) for tie in book.ties()}


class CalmFlowTest(unittest.TestCase):
    def test_calm_flows(self):
        chance = random.Random(331)
        for book in BOOKS:
            for bound in (4, 10 ** 30):
                wanted = pairs(some_point(chance, book.directions, bound))
                flow = calm_flow(book, wanted)
                self.assertEqual(list(flow), book.ties())
                self.assertIs(is_flow(book, flow), True)
                self.assertEqual(set(left_over(book, fractions(flow)).values()), {0})
                self.assertEqual(pairs(drift_by_hand(book, fractions(flow))), wanted)
                self.assertEqual(drift(book, flow), wanted)
                self.assertEqual(work(book, flow), square(book, wanted))
                self.assertEqual(flow, {tie: product(book, step(book, tie), wanted) for tie in book.ties()})
                self.assertEqual(calm_flow(drift=wanted, book=book), flow)

    def test_least_work(self):
        chance = random.Random(332)
        more = 0
        for book in BOOKS:
            wanted = pairs(some_point(chance, book.directions))
            flow = fractions(calm_flow(book, wanted))
            path = closed_walk(chance, book, book.names()[0], 9)
            whole_round = fractions(round_flow(book, path))
            gone = pairs(drift_by_hand(book, whole_round))
            rest_of_it = fractions(calm_flow(book, gone))
            # The round less the calm flow with its drift has no drift, and is balanced.
            other = flow_of({tie: flow[tie] + whole_round[tie] - rest_of_it[tie] for tie in flow})
            self.assertEqual((drift(book, other), is_balanced(book, other)), (wanted, True))
            if other != flow_of(flow):
                more += 1
                self.assertGreater(numbers((work(book, other),)), numbers((work(book, flow_of(flow)),)))
        self.assertGreater(more, 9)

    def test_by_hand(self):
        self.assertEqual(calm_flow(COMB, ((1, 1), (0, 1))), {("a", "b", (0, 0)): (-1, 1), ("a", "b", (0, 1)): (0, 1),
                                                            ("a", "b", (1, 0)): (1, 1)})
        self.assertEqual(calm_flow(LADDER, ((1, 1),)), {("a", "a", (1,)): (1, 2), ("a", "b", (0,)): (0, 1),
                                                       ("b", "b", (1,)): (1, 2)})
        self.assertEqual(work(COMB, calm_flow(COMB, ((1, 1), (0, 1)))), (2, 1))

    def test_errors(self):
        for value in NO_POINTS:
            self.assertEqual(outcome(calm_flow, COMB, value), raised("InvalidVector", at=0), value)
        self.assertEqual(outcome(calm_flow, CUBE, ((1, 2), (1, 2))), raised("InvalidVector", at=0))

    def test_first_of_all(self):
        for function in (calm_flow, is_flow):
            for value in (None, ((0, 1),), {}):
                falls_first(self, function, value, falling=FALLING)
        for book, many in FALLING:
            flow = {tie: (0, 1) for tie in book.ties()}
            for function, value in ((is_flow, flow), (is_balanced, flow), (drift, flow), (work, flow), (round_flow, ())):
                falls_first(self, function, value, falling=[(book, many)])


class IsFlowTest(unittest.TestCase):
    def test_flows(self):
        chance = random.Random(333)
        for book in BOOKS:
            flow = flow_of(random_flow(chance, book))
            self.assertIs(is_flow(book, flow), True)
            self.assertIs(is_flow(value={tie: flow[tie] for tie in reversed(book.ties())}, book=book), True)
            for tie in book.ties():
                less = {other: item for other, item in flow.items() if other != tie}
                self.assertIs(is_flow(book, less), False)
                self.assertIs(is_flow(book, {**less, turned_by_hand(tie): (1, 2)}), False)
                self.assertIs(is_flow(book, {**flow, turned_by_hand(tie): (1, 2)}), False)
                self.assertIs(is_flow(book, {**flow, "a": (1, 2)}), False)
                self.assertIs(is_flow(book, {**less, (tie[0], tie[1], tie[2] + (0,)): (1, 2)}), False)
                for value in (None, 1, "a", (2, 4), (1, 0), (1, -2), (0, 2), [1, 2], (True, 1), (1, True), (1, 2, 3),
                              ((1, 2),), 1.5):
                    self.assertIs(is_flow(book, {**flow, tie: value}), False, value)

    def test_any_values(self):
        for value in ANY_VALUES + [[(tie, (1, 1)) for tie in COMB.ties()], {"a": (1, 2), "b": (1, 2), "c": (1, 2)},
                                   COMB.ties(), tuple(COMB.ties())]:
            for book in (CHAIN, COMB):
                self.assertIs(is_flow(book, value), False, value)
        self.assertIs(is_flow(CHAIN, {("a", "a", (1,)): (10 ** 39, 7)}), True)
        self.assertIs(is_flow(CHAIN, {("a", "a", (True,)): (1, 2)}), False)
        self.assertIs(is_flow(CHAIN, {("a", "a", (1,)): (False, 1)}), False)


class AnswerTest(unittest.TestCase):
    def test_any_flows(self):
        chance = random.Random(334)
        for book in BOOKS:
            values = random_flow(chance, book, 10 ** 20)
            flow = flow_of(values)
            kept = copy.deepcopy(flow)
            self.assertEqual(numbers(drift(flow=flow, book=book)), drift_by_hand(book, values))
            self.assertEqual(numbers((work(flow=flow, book=book),))[0], sum(value ** 2 for value in values.values()))
            self.assertIs(is_balanced(flow=flow, book=book), not any(left_over(book, values).values()))
            self.assertEqual(flow, kept)

    def test_by_hand(self):
        flow = {("a", "b", (0, 0)): (1, 2), ("a", "b", (1, 0)): (-1, 3), ("a", "b", (0, 1)): (-1, 6)}
        self.assertEqual((is_balanced(COMB, flow), drift(COMB, flow), work(COMB, flow)),
                         (True, ((-1, 3), (-1, 6)), (7, 18)))
        flow = {("a", "b", (0, 0)): (1, 2), ("a", "b", (1, 0)): (-1, 3), ("a", "b", (0, 1)): (-1, 7)}
        self.assertIs(is_balanced(COMB, flow), False)
        # What goes along a tie of a place with itself goes out and comes in.
        self.assertIs(is_balanced(SQUARE, {("a", "a", (0, 1)): (5, 1), ("a", "a", (1, 0)): (1, 7)}), True)
        nothing = {tie: (0, 1) for tie in SKEW.ties()}
        self.assertEqual((is_balanced(SKEW, nothing), drift(SKEW, nothing), work(SKEW, nothing)),
                         (True, ((0, 1), (0, 1)), (0, 1)))


class RoundFlowTest(unittest.TestCase):
    def test_closed_paths(self):
        chance = random.Random(335)
        for book in BOOKS:
            for name in book.names():
                path = closed_walk(chance, book, name, chance.randint(0, 12))
                flow = round_flow(book, path)
                self.assertEqual(flow, {tie: (path.count(tie) - path.count(turned_by_hand(tie)), 1)
                                        for tie in book.ties()})
                self.assertEqual(list(flow), book.ties())
                self.assertIs(is_flow(book, flow), True)
                self.assertIs(is_balanced(book, flow), True)
                self.assertEqual(round_flow(path=path, book=book), flow)
                gives_new(self, round_flow, book, path)

    def test_by_hand(self):
        for book in WHOLE:
            self.assertEqual(round_flow(book, ()), {tie: (0, 1) for tie in book.ties()})
        go, back = ("a", "a", (1,)), ("a", "a", (-1,))
        self.assertEqual([round_flow(CHAIN, path)[go] for path in ((go,), (back,), (go, back), (go, go, go), (back, go, back))],
                         [(1, 1), (-1, 1), (0, 1), (3, 1), (-1, 1)])
        path = (("a", "d", (-2,)), ("d", "a", (3,)), ("a", "d", (-2,)), ("d", "a", (2,)))
        self.assertEqual({tie: item for tie, item in round_flow(TWINNED, path).items() if item != (0, 1)},
                         {("a", "d", (-3,)): (-1, 1), ("a", "d", (-2,)): (1, 1)})
        up = ("a", "b", (0,))
        self.assertEqual(set(round_flow(TREE, (up, turned_by_hand(up))).values()), {(0, 1)})

    def test_new_dicts(self):
        gives_new(self, calm_flow, COMB, ((1, 1), (0, 1)))


if __name__ == "__main__":
    unittest.main()
