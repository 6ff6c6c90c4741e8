"""Papers and whether they are right ([42]), of dicts of books and of benches."""

import itertools
import random
import unittest
from fractions import Fraction

from endlessnets.bench import Bench
from endlessnets.colours import colouring, odd_route
from endlessnets.far import far_paper
from endlessnets.leastbooks import LeastBook
from endlessnets.motions import Motion
from endlessnets.papers import is_right
from endlessnets.resting import rest
from endlessnets.samenesses import motions, verdict
from endlessnets.steadiness import clash
from fractional import numbers, pairs, plus
from samples import BEADS, CHAIN, COMB, CUBE, DIAMOND, HEXAGONAL, LADDER, SKEW, SQUARE, TREE, TWO_PIECES, WIDE, plain
from test_samenesses import with_false
from tools import ANY_VALUES, emptied, gives_new, outcome, raised

BOOKS = {"comb": COMB, "cube": CUBE, "wide": WIDE, "square": SQUARE, "hex": HEXAGONAL, "chain": CHAIN, "beads": BEADS,
         "skew": SKEW, "ladder": LADDER, "tree": TREE, "falls": TWO_PIECES, "dia": DIAMOND,
         "paint": COMB.with_kind("b", "other").with_kind("a", "third")}
WHOLE_NAMES = [name for name in BOOKS if name != "falls"]
STEADY_NAMES = [name for name in WHOLE_NAMES if name not in ("ladder", "tree")]
FEW_NAMES = [name for name in STEADY_NAMES if name not in ("cube", "dia")]
FLAT_NAMES = [name for name in WHOLE_NAMES if BOOKS[name].directions < 3]


def bench_of(books):
    bench = Bench()
    bench.do(*[("put", name, book) for name, book in books.items()])
    return bench


class RightTest(unittest.TestCase):
    def setUp(self):
        self.bench = bench_of(BOOKS)

    def check(self, paper, right):
        self.assertIs(is_right(BOOKS, paper), right, paper)
        self.assertIs(self.bench.holds(paper), right)

    def check_bent(self, paper, *wrong):
        """The paper is right, but not with other parts of it."""
        word, names, value = paper
        self.check(paper, True)
        for bent in ([word, names, value], (word, list(names), value), (word, *names, value), (word, names), (names, value),
                     (word, names, value, value), (word, (*names, names[0]), value), (word, names[1:], value),
                     (word, ("nobody",) * len(names), value), (word, (["comb"],) * len(names), value),
                     (word, (None,) * len(names), value), (word + "s", names, value), (word.upper(), names, value),
                     (None, names, value), ([word], names, value), (word, names, None), (word, None, value),
                     (word, "".join(names), value), {word: value}):
            self.check(bent, False)
        for bent in [*wrong, *[other for other in ("rest", "verdict", "colour", "far") if other != word]]:
            told = (bent, names, value) if isinstance(bent, str) else (word, names, bent)
            self.check(told, False)

    def test_rest(self):
        for name in WHOLE_NAMES:
            points = rest(BOOKS[name])
            first = BOOKS[name].names()[-1]
            moved = {place: pairs(plus(numbers(point), (Fraction(2, 7),) * len(point))) for place, point in points.items()}
            self.check(("rest", (name,), moved), True)
            self.check(("rest", (name,), dict(reversed(list(points.items())))), True)
            wrong = [{**points, "zzz": points[first]}, list(points.items()), tuple(points.items()),
                     {place: list(point) for place, point in points.items()},
                     {place: tuple((over * 2, under * 2) for over, under in point) for place, point in points.items()},
                     {place: with_false(point) for place, point in points.items()}, {}]
            if len(points) > 1:
                wrong += [{**points, first: moved[first]}, {place: points[place] for place in points if place != first}]
            self.check_bent(("rest", (name,), points), *wrong)
        self.check(("rest", ("falls",), {"a": ((0, 1), (0, 1))}), False)
        self.check(("rest", ("square",), rest(CUBE)), False)

    def test_verdicts(self):
        for one, other in [*itertools.product(FEW_NAMES, repeat=2), ("cube", "cube"), ("dia", "cube"), ("comb", "dia")]:
            found = verdict(BOOKS[one], BOOKS[other])
            self.check(("verdict", (one, other), found), True)
            self.check(("verdict", (other, one), found), verdict(BOOKS[other], BOOKS[one]) == found or (
                found[0] == "same" and found[1] in motions(LeastBook(BOOKS[other]).book, LeastBook(BOOKS[one]).book)))
            if found[0] == "same":
                least = LeastBook(BOOKS[other]).book
                for motion in motions(LeastBook(BOOKS[one]).book, least)[::5]:
                    self.check(("verdict", (one, other), ("same", motion)), True)
                beside = found[1] * Motion.shifting(least, (1,) * least.directions)
                self.check(("verdict", (one, other), ("same", beside)), False)
            elif found[0] == "breaks":
                self.check(("verdict", (one, other), ("breaks", tuple(found[1]))), True)
                self.check(("verdict", (one, other), ("breaks", found[1][1:])), False)
            else:
                self.check(("verdict", (one, other), with_false(found)), with_false(found) == found
                           and repr(with_false(found)) == repr(found))
        self.check_bent(("verdict", ("square", "wide"), verdict(SQUARE, WIDE)), ("same", None), ("same",), ("breaks", []))
        self.check_bent(("verdict", ("square", "cube"), ("directions", 2, 3)), ("directions", 3, 2), ["directions", 2, 3])
        for name in ("ladder", "tree", "falls"):
            for value in (("places", 2, 1), ("same", Motion.staying(BOOKS[name])), ("directions", 1, 2)):
                for names in ((name, "square"), ("square", name), (name, name)):
                    self.check(("verdict", names, value), False)

    def test_colours(self):
        for name in WHOLE_NAMES:
            book = BOOKS[name]
            told, odd = colouring(book), odd_route(book)
            if told is not None:
                colours, changes = told
                place = book.names()[0]
                self.check_bent(("colour", (name,), ("colouring", told)), ("odd", []), ("odd", told), told, ("colouring",),
                                ["colouring", told], ("colouring", told, told), ("colouring", list(told)), ("colouring", None),
                                ("colouring", ({**colours, place: 1}, changes)), ("odd", None),
                                ("colouring", ({key: bool(colours[key]) for key in colours}, changes)),
                                ("colouring", (colours, tuple(map(bool, changes)))), ("odd", [(1, (book.leaving(place)[0],))]))
            else:
                self.check(("colour", (name,), ("odd", tuple(odd))), True)
                self.check(("colour", (name,), ("odd", [*odd, *odd, *odd])), True)
                self.check_bent(("colour", (name,), ("odd", odd)), ("colouring", odd), ("odd", [*odd, *odd]), odd, ("odd", []),
                                ["odd", odd], ("odd", None), ("colouring", None), ("odd", odd[:-1]), ("odd", odd, odd),
                                ("colouring", ({place: 0 for place in book.names()}, (0,) * book.directions)),
                                ("odd", [list(part) for part in odd]), ("odd", [(True, path) for _, path in odd]))
        for value in (("colouring", ({"a": 0}, (0, 0))), ("colouring", ({"a": 0}, (0, 1))), ("odd", [])):
            self.check(("colour", ("falls",), value), False)
        odd = odd_route(HEXAGONAL)
        for word in ("even", "", None, "colour", ["odd"]):
            self.check(("colour", ("hex",), (word, odd)), False)
        # What would be right, if the net were one piece.
        thirds = plain(2, "a", [("a", "a", (1, 0)), ("a", "a", (0, 3))])
        self.assertIs(is_right({"x": thirds}, ("colour", ("x",), ("colouring", ({"a": 0}, (1, 1))))), False)
        flat = plain(2, "a", [("a", "a", (1, 0)), ("a", "a", (2, 0))])
        around = [(2, (("a", "a", (1, 0)),)), (1, (("a", "a", (-2, 0)),))]
        self.assertIs(is_right({"x": flat}, ("colour", ("x",), ("odd", around))), False)
        self.assertIs(is_right({"x": flat.with_tie(("a", "a", (0, 1)))}, ("colour", ("x",), ("odd", around))), True)

    def test_far(self):
        chance = random.Random(591)
        for name in FLAT_NAMES:
            book = BOOKS[name]
            vector = tuple(chance.randint(1, 9) for _ in range(book.directions))
            other = tuple(number + 1 for number in vector)
            paper = far_paper(book, vector)
            self.check_bent(("far", (name,), (vector, paper)), paper, (other, paper), (list(vector), paper), (vector,),
                            [vector, paper], (vector, list(paper)), (vector, paper, paper), (vector, None), (None, paper),
                            (vector, far_paper(book, other)), (vector + (0,), paper), (vector, with_false(paper)))
            zero = (0,) * book.directions
            self.check(("far", (name,), (zero, far_paper(book, zero))), True)
            self.check(("far", (name,), ((False,) * book.directions, far_paper(book, zero))), False)
        for name in ("cube", "dia", "falls"):
            for value in (((1, 0), far_paper(SQUARE, (1, 0))), ((1, 0, 0), None), (None, None)):
                self.check(("far", (name,), value), False)

    def test_any_values(self):
        for value in ANY_VALUES:
            self.check(value, False)
            for word, many in (("rest", 1), ("verdict", 2), ("colour", 1), ("far", 1)):
                for name in ("comb", "chain"):
                    self.check((word, (name,) * many, value), False)
                    for part in ("colouring", "odd", "same", "breaks", (1, 2), (1,)):
                        self.check((word, (name,) * many, (part, value)), False)
                self.check((word, (value,) * many, None), False)
                self.check((word, value, None), False)
            self.check((value, ("comb",), rest(COMB)), False)
        paper = ("rest", ("comb",), rest(COMB))
        self.assertIs(is_right({}, paper), False)
        self.assertIs(is_right(paper=paper, books={"comb": COMB}), True)
        self.assertIs(self.bench.holds(paper=paper), True)


class MadeTest(unittest.TestCase):
    def test_made(self):
        bench = bench_of(BOOKS)
        for name in WHOLE_NAMES:
            self.assertEqual(bench.paper("rest", name), ("rest", (name,), rest(BOOKS[name])))
            word, names, (answer, value) = bench.paper("colour", name)
            self.assertEqual((word, names), ("colour", (name,)))
            told = colouring(BOOKS[name])
            self.assertEqual((answer, value), ("odd", odd_route(BOOKS[name])) if told is None else ("colouring", told))
            for paper in (bench.paper("rest", name), bench.paper("colour", name)):
                self.assertIs(bench.holds(paper), True)
            for made in ("rest", "colour"):
                gives_new(self, bench.paper, made, name)
        for one, other in [*itertools.product(FEW_NAMES, repeat=2), ("cube", "cube"), ("dia", "cube"), ("comb", "dia")]:
            paper = bench.paper("verdict", one, other)
            self.assertEqual(paper, ("verdict", (one, other), verdict(BOOKS[one], BOOKS[other])))
            self.assertIs(bench.holds(paper), True)
        gives_new(self, bench.paper, "verdict", "comb", "paint")
        for name in FLAT_NAMES:
            vector = (10 ** 39, -3)[:BOOKS[name].directions]
            paper = bench.far_paper(vector=vector, name=name)
            self.assertEqual(paper, ("far", (name,), (vector, far_paper(BOOKS[name], vector))))
            self.assertIs(bench.holds(paper), True)
        self.assertEqual(bench.history(), (1, 0))
        self.assertEqual(bench.log(), [])

    def test_wrong_words(self):
        bench = bench_of(BOOKS)
        for word in [*ANY_VALUES, "far", "rests", "REST", "same", "colouring"]:
            for names in ((), ("comb",), ("comb", "comb"), ("nobody",), (None,)):
                self.assertEqual(outcome(bench.paper, word, *names), raised("InvalidName", value=word))
        for word, many in (("rest", 1), ("verdict", 2), ("colour", 1)):
            for names in ((), ("comb",), ("comb", "falls"), ("falls",), ("x", "y", "z"), (None,), (None, None)):
                if len(names) != many:
                    self.assertEqual(outcome(bench.paper, word, *names), raised("InvalidName", value=word))

    def test_unknown_names(self):
        bench = bench_of(BOOKS)
        for value in [*ANY_VALUES, "nobody"]:
            gone = raised("UnknownName", name=value)
            for names in ((value,), (value, "comb"), ("falls", value), ("ladder", value), (value, value)):
                for word in ("rest", "colour") if len(names) == 1 else ("verdict",):
                    self.assertEqual(outcome(bench.paper, word, *names), gone)
            for vector in ((1, 2), None, "x"):
                self.assertEqual(outcome(bench.far_paper, value, vector), gone)

    def test_books_that_do_not_fit(self):
        bench = bench_of({**BOOKS, "lines": TWO_PIECES.without(("a", "a", (2, 0)))})
        falls, lines = raised("Falls", many=2), raised("Falls", many=None)
        unsteady = {name: raised("Unsteady", one=clash(BOOKS[name])[0], other=clash(BOOKS[name])[1])
                    for name in ("ladder", "tree")}
        wrong = {"falls": falls, "lines": lines, **unsteady}
        for one in wrong:
            for other in [*wrong, "comb", "cube"]:
                self.assertEqual(outcome(bench.paper, "verdict", one, other), wrong[one])
            self.assertEqual(outcome(bench.paper, "verdict", "comb", one), wrong[one])
            self.assertEqual(outcome(bench.paper, "verdict", "cube", one), wrong[one])
        for word in ("rest", "colour"):
            self.assertEqual(outcome(bench.paper, word, "falls"), falls)
            self.assertEqual(outcome(bench.paper, word, "lines"), lines)
            for name in unsteady:
                self.assertEqual(outcome(bench.paper, word, name)[0], "returned")
        for vector in [*ANY_VALUES, (1, 2, 3)]:
            self.assertEqual(outcome(bench.far_paper, "falls", vector), falls)
            self.assertEqual(outcome(bench.far_paper, "cube", vector), raised("InvalidDirections", value=3))
            if vector != (1, 2, 3):
                self.assertEqual(outcome(bench.far_paper, "tree", vector), raised("InvalidVector", at=0) if vector != (0,)
                                 else outcome(bench.far_paper, "tree", (0,)))

    def test_papers_of_an_earlier_state(self):
        bench = bench_of({"one": COMB, "two": COMB})
        papers = [bench.paper("rest", "one"), bench.paper("verdict", "one", "two"), bench.paper("colour", "one"),
                  bench.far_paper("one", (2, 1))]
        self.assertEqual([bench.holds(paper) for paper in papers], [True] * 4)
        bench.do(("tie", "one", ("a", "b", (1, 3))), ("tie", "one", ("b", "b", (1, 0))))
        self.assertEqual([bench.holds(paper) for paper in papers], [False] * 4)
        bench.undo()
        self.assertEqual([bench.holds(paper) for paper in papers], [True] * 4)
        bench.do(("drop", "two"))
        self.assertEqual([bench.holds(paper) for paper in papers], [True, False, True, True])
        bench.do(("drop", "one"))
        self.assertEqual([bench.holds(paper) for paper in papers], [False] * 4)
        bench.undo()
        bench.undo()
        emptied(papers[0][2])
        self.assertEqual([bench.holds(paper) for paper in papers], [False, True, True, True])
        self.assertIs(bench.holds(bench.paper("rest", "one")), True)


if __name__ == "__main__":
    unittest.main()
