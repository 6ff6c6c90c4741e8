"""Books ([5]) and what their methods make of them."""

import copy
import random
import unittest

from endlessnets.books import Book, standard, turned
from endlessnets.lattices import Lattice
from samples import ALL, COMB, SLANTED, SQUARE, random_books, turned_by_hand
from tools import ANY_VALUES, LETTERS, outcome, raised

NAMES = [one + other for one in LETTERS for other in LETTERS]
BIG = 10 ** 39 + 7
PLACES = [("a", "node"), ("b", "node")]


def places(many):
    return [(name, "node") for name in NAMES[:many]]


def loops(many):
    return [("a", "a", (number,)) for number in range(1, many + 1)]


class TieTest(unittest.TestCase):
    def test_turned(self):
        self.assertEqual(turned(("a", "b", (1, -2))), ("b", "a", (-1, 2)))
        self.assertEqual(turned(tie=("a", "a", (BIG,))), ("a", "a", (-BIG,)))

    def test_standard(self):
        for vector in ((0, 0), (1, 0), (-1, 5), (0, -BIG)):
            opposite = tuple(-number for number in vector)
            self.assertEqual(standard(("a", "b", vector)), ("a", "b", vector))
            self.assertEqual(standard(("b", "a", vector)), ("a", "b", opposite))
        for vector in ((1,), (0, 2, -3), (0, 0, 1), (5, -9)):
            opposite = tuple(-number for number in vector)
            self.assertEqual(standard(("c", "c", vector)), ("c", "c", vector))
            self.assertEqual(standard(("c", "c", opposite)), ("c", "c", vector))
        self.assertEqual(standard(tie=("b", "ab", (1,))), ("ab", "b", (-1,)))

    def test_both_ends(self):
        for book in random_books(31):
            for name in book.names():
                for tie in book.leaving(name):
                    self.assertEqual(turned(tie), turned_by_hand(tie))
                    self.assertEqual(turned(turned(tie)), tie)
                    self.assertEqual(standard(turned(tie)), standard(tie))
                    self.assertIn(standard(tie), (tie, turned(tie)))


class ConstructorTest(unittest.TestCase):
    def test_directions(self):
        for value in [0, 4, -1, 10 ** 39] + [value for value in ANY_VALUES if type(value) is not int]:
            for rest in ((PLACES,), (None, None), ([], [None]), ([("a", "node")] * 65,)):
                self.assertEqual(outcome(Book, value, *rest), raised("InvalidDirections", value=value))
        self.assertEqual(outcome(Book, True, PLACES), raised("InvalidDirections", value=True))

    def test_no_places(self):
        for value in [value for value in ANY_VALUES if not isinstance(value, (list, tuple))] + [[], (), {"a": "b"}]:
            for ties in ((), None, [None]):
                self.assertEqual(outcome(Book, 1, value, ties), raised("InvalidPlace", at=-1))

    def test_many_places(self):
        self.assertEqual(len(Book(1, places(64))), 64)
        self.assertEqual(outcome(Book, 1, places(65)), raised("TooMany", most=64))
        self.assertEqual(outcome(Book, 1, [None] * 65, None), raised("TooMany", most=64))
        self.assertEqual(outcome(Book, 1, [("a", "node")] * 65, [None]), raised("TooMany", most=64))

    def test_wrong_places(self):
        wrong = [("", "node"), ("abcdefg", "node"), ("a", ""), ("a", "a b"), ("a", "q" * 2001), ("a",), ("A", "node"),
                 ["a", "node"], ("a", "node", 1), ("a", None), (True, "node"), None, "ab", {"a": "node"}]
        for value in wrong + ANY_VALUES:
            for at in (0, 1, 2):
                told = [("a", "node"), ("a", "node")][:at] + [value] + [None]
                self.assertEqual(outcome(Book, 1, told, None), raised("InvalidPlace", at=at), value)

    def test_double_names(self):
        told = [("a", "x"), ("b", "x"), ("c", "x"), ("b", "y"), ("a", "x")]
        self.assertEqual(outcome(Book, 1, told, None), raised("DuplicateName", name="b"))
        self.assertEqual(outcome(Book, 1, told + [("a", "")]), raised("InvalidPlace", at=5))

    def test_no_list_of_ties(self):
        for value in ANY_VALUES:
            if not isinstance(value, (list, tuple)):
                self.assertEqual(outcome(Book, 1, PLACES, value), raised("InvalidTie", at=-1))

    def test_many_ties(self):
        self.assertEqual(len(Book(1, PLACES, loops(400)).ties()), 400)
        self.assertEqual(outcome(Book, 1, PLACES, loops(401)), raised("TooMany", most=400))
        self.assertEqual(outcome(Book, 1, PLACES, [None] * 401), raised("TooMany", most=400))

    def test_wrong_ties(self):
        wrong = [("a", "b"), ("a", "b", (0, 0)), ("a", "b", (0,), 1), ["a", "b", (0,)], ("a", "b", [0]), ("a", "", (0,)),
                 ("a", "b", (True,)), ("a", "a", (False,)), ("A", "b", (0,)), (1, "b", (0,)), ("a", "b", 0),
                 ("abcdefg", "b", (0,)), None, "ab", {"a": 1}]
        for value in wrong + ANY_VALUES:
            for at in (0, 1, 2):
                told = [("a", "b", (1,)), ("b", "b", (-2,))][:at] + [value]
                self.assertEqual(outcome(Book, 1, PLACES, told), raised("InvalidTie", at=at), value)

    def test_other_errors_of_ties(self):
        def of(*ties):
            return outcome(Book, 2, PLACES, list(ties))
        right = ("a", "b", (1, 2))
        self.assertEqual(of(right, ("a", "x", (0, 0))), raised("UnknownName", name="x"))
        self.assertEqual(of(right, ("x", "y", (0, 0))), raised("UnknownName", name="x"))
        self.assertEqual(of(("x", "x", (0, 0))), raised("UnknownName", name="x"))
        self.assertEqual(of(right, ("b", "b", (0, 0))), raised("Itself", name="b"))
        self.assertEqual(of(right, right), raised("TwiceTold", tie=right))
        self.assertEqual(of(right, ("b", "a", (-1, -2))), raised("TwiceTold", tie=right))
        self.assertEqual(of(("a", "a", (0, -1)), right, ("a", "a", (0, 1))), raised("TwiceTold", tie=("a", "a", (0, 1))))
        self.assertEqual(of(("a", "a", (0, 1)), ("a", "a", (0, -1))), raised("TwiceTold", tie=("a", "a", (0, 1))))

    def test_errors_are_asked_for_each_tie(self):
        faults = [(None, "InvalidTie"), (("a", "x", (0,)), "UnknownName"), (("a", "a", (0,)), "Itself"),
                  (("b", "a", (-3,)), "TwiceTold")]
        for one, code in faults:
            for other, _ in faults:
                self.assertEqual(outcome(Book, 1, PLACES, [("a", "b", (3,)), one, other])[0], code)

    def test_by_name(self):
        self.assertEqual(Book(ties=[("a", "b", (1,))], places=PLACES, directions=1), Book(1, PLACES, [("a", "b", (1,))]))
        self.assertEqual(Book(1, PLACES).ties(), [])
        self.assertEqual(Book(1, tuple(PLACES), (("a", "b", (1,)),)), Book(1, PLACES, [("a", "b", (1,))]))


class AnswersTest(unittest.TestCase):
    def test_lists(self):
        book = Book(2, [("c", "x"), ("a", "y(z)"), ("b", "x")],
                    [("c", "a", (1, 2)), ("b", "b", (0, -4)), ("a", "b", (5, 5)), ("a", "b", (-5, 5))])
        self.assertEqual(book.directions, 2)
        self.assertEqual(book.places(), [("a", "y(z)"), ("b", "x"), ("c", "x")])
        self.assertEqual(book.names(), ["a", "b", "c"])
        ties = [("a", "b", (-5, 5)), ("a", "b", (5, 5)), ("a", "c", (-1, -2)), ("b", "b", (0, 4))]
        self.assertEqual(book.ties(), ties)
        self.assertEqual([book.kind("a"), book.kind(name="c")], ["y(z)", "x"])
        self.assertEqual([book.degree("a"), book.degree("b"), book.degree(name="c")], [3, 4, 1])
        self.assertEqual(book.leaving("b"), [("b", "a", (-5, -5)), ("b", "a", (5, -5)), ("b", "b", (0, -4)),
                                             ("b", "b", (0, 4))])
        self.assertEqual(book.leaving(name="c"), [("c", "a", (1, 2))])
        self.assertEqual([len(book), bool(book), repr(book)], [3, True, "Book(3 places, 4 ties)"])
        self.assertEqual(repr(Book(1, [("a", "node")], [("a", "a", (1,))])), "Book(1 places, 1 ties)")

    def test_degrees_and_leaving(self):
        for book in ALL + random_books(32):
            found = []
            for name in book.names():
                leaving = book.leaving(name)
                self.assertEqual(leaving, sorted(leaving))
                self.assertTrue(all(tie[0] == name for tie in leaving))
                self.assertEqual(book.degree(name), len(leaving))
                found.extend(leaving)
            expected = book.ties() + [turned_by_hand(tie) for tie in book.ties()]
            self.assertEqual(sorted(found), sorted(expected))
            self.assertEqual(book.ties(), sorted(standard(tie) for tie in book.ties()))

    def test_unknown_names(self):
        for value in [value for value in ANY_VALUES if value != "a"] + ["x", "A"]:
            for method in (COMB.kind, COMB.degree, COMB.leaving, COMB.without_place):
                self.assertEqual(outcome(method, value), raised("UnknownName", name=value))
            self.assertEqual(outcome(COMB.with_kind, value, ""), raised("UnknownName", name=value))
            self.assertIs(value in COMB, False)
        self.assertIs("a" in COMB, True)

    def test_has_tie(self):
        for book in ALL + random_books(33):
            for tie in book.ties():
                self.assertIs(book.has_tie(tie), True)
                self.assertIs(book.has_tie(value=turned_by_hand(tie)), True)
                self.assertIs(book.has_tie(list(tie)), False)
                self.assertIs(book.has_tie((tie[0], tie[1], list(tie[2]))), False)
                self.assertIs(book.has_tie(tie + (1,)), False)
                self.assertIs(book.has_tie(("zz", tie[1], tie[2])), False)
            for value in ANY_VALUES:
                self.assertIs(book.has_tie(value), book is COMB and value == ("a", "b", (0, 0)), value)
        self.assertIs(SQUARE.has_tie(("a", "a", (True, 0))), False)
        self.assertIs(SQUARE.has_tie(("a", "a", (1, False))), False)
        self.assertIs(SQUARE.has_tie(("a", "a", (1, 1))), False)
        self.assertIs(COMB.has_tie(("b", "a", (1, 0))), False)

    def test_equal(self):
        told = [("a", "b", (1, 2)), ("b", "b", (0, 1)), ("a", "a", (1, -1))]
        book = Book(2, PLACES, told)
        self.assertTrue(book == Book(2, PLACES[::-1], [turned_by_hand(tie) for tie in told[::-1]]))
        self.assertFalse(book != Book(2, PLACES[::-1], told))
        others = [Book(2, PLACES, told[1:]), Book(2, [("a", "leaf"), ("b", "node")], told), Book(2, PLACES),
                  Book(2, PLACES + [("c", "node")], told), Book(2, PLACES, [("a", "b", (-1, 2))] + told[1:])]
        for other in others + [value for value in ANY_VALUES if not isinstance(value, Book)] + [str(book)]:
            self.assertFalse(book == other)
            self.assertTrue(book != other)
        self.assertFalse(Book(1, PLACES) == Book(2, PLACES))
        self.assertFalse(Book(2, PLACES) == Lattice(2))


class ChangesTest(unittest.TestCase):
    def setUp(self):
        self.before = SLANTED.text()

    def tearDown(self):
        self.assertEqual(SLANTED.text(), self.before)

    def test_with_tie(self):
        self.assertEqual(SLANTED.with_tie(("c", "b", (0, 0))).ties(),
                         sorted(SLANTED.ties() + [("b", "c", (0, 0))]))
        self.assertEqual(SLANTED.with_tie(tie=("a", "a", (0, -1))).ties()[0], ("a", "a", (0, 1)))
        many = len(SLANTED.ties())
        cases = [(None, raised("InvalidTie", at=many)), (("a", "b", (1,)), raised("InvalidTie", at=many)),
                 (("a", "x", (0, 0)), raised("UnknownName", name="x")), (("b", "b", (0, 0)), raised("Itself", name="b")),
                 (("b", "a", (-1, -2)), raised("TwiceTold", tie=("a", "b", (1, 2)))),
                 (("a", "b", (True, 2)), raised("InvalidTie", at=many))]
        for tie, expected in cases:
            self.assertEqual(outcome(SLANTED.with_tie, tie), expected)
        full = Book(1, PLACES, loops(400))
        for tie in (("a", "b", (0,)), ("a", "a", (1,)), None):
            self.assertEqual(outcome(full.with_tie, tie), raised("TooMany", most=400))
        self.assertEqual(len(Book(1, PLACES, loops(399)).with_tie(("a", "b", (0,))).ties()), 400)

    def test_without(self):
        self.assertEqual(SLANTED.without(), SLANTED)
        gone = [SLANTED.ties()[0], turned_by_hand(SLANTED.ties()[2])]
        expected = [tie for at, tie in enumerate(SLANTED.ties()) if at not in (0, 2)]
        self.assertEqual(SLANTED.without(*gone).ties(), expected)
        self.assertEqual(SLANTED.without(*gone, gone[0], turned_by_hand(gone[0]), *gone).ties(), expected)
        self.assertEqual(SLANTED.without(*SLANTED.ties()), Book(2, SLANTED.places()))
        for value in ANY_VALUES + [("a", "b", (1, 3)), ("a", "b", (1,)), list(gone[0])]:
            for before in ([], gone):
                found = outcome(SLANTED.without, *before, value, None)
                self.assertEqual(found, raised("UnknownTie", tie=value))
        self.assertEqual(outcome(SQUARE.without, ("a", "a", (True, 0))), raised("UnknownTie", tie=("a", "a", (True, 0))))

    def test_with_place(self):
        self.assertEqual(SLANTED.with_place("ab").places(), sorted(SLANTED.places() + [("ab", "node")]))
        self.assertEqual(SLANTED.with_place(kind="x[a]", name="q").kind("q"), "x[a]")
        self.assertEqual(SLANTED.with_place("ab").ties(), SLANTED.ties())
        for name in [value for value in ANY_VALUES if value != "a"]:
            for kind in ("node", ""):
                self.assertEqual(outcome(SLANTED.with_place, name, kind), raised("InvalidName", value=name))
        for kind in ["", "a b", "q" * 2001, "a\n"] + [value for value in ANY_VALUES if not isinstance(value, str)]:
            for name in ("q", "a"):
                self.assertEqual(outcome(SLANTED.with_place, name, kind), raised("InvalidKind", value=kind))
        self.assertEqual(outcome(SLANTED.with_place, "b"), raised("DuplicateName", name="b"))
        full = Book(1, places(64))
        for name in ("q", "aa"):
            self.assertEqual(outcome(full.with_place, name), raised("TooMany", most=64))
            self.assertEqual(outcome(full.with_place, name, ""), raised("InvalidKind", value=""))
        self.assertEqual(len(Book(1, places(63)).with_place("q")), 64)

    def test_without_place(self):
        less = SLANTED.without_place("c")
        self.assertEqual(less.places(), [("a", "node"), ("b", "node")])
        self.assertEqual(less.ties(), [tie for tie in SLANTED.ties() if "c" not in tie])
        self.assertEqual(less.without_place(name="b").ties(), [])
        self.assertEqual(outcome(SQUARE.without_place, "a"), raised("InvalidPlace", at=-1))
        self.assertEqual(outcome(SQUARE.without_place, "b"), raised("UnknownName", name="b"))

    def test_with_kind(self):
        self.assertEqual(SLANTED.with_kind("b", "leaf").places(), [("a", "node"), ("b", "leaf"), ("c", "node")])
        self.assertEqual(SLANTED.with_kind(kind="leaf", name="b").ties(), SLANTED.ties())
        for kind in ["", "A", "q" * 2001, None, True, ("node",), ["node"]]:
            self.assertEqual(outcome(SLANTED.with_kind, "b", kind), raised("InvalidKind", value=kind))
            self.assertEqual(outcome(SLANTED.with_kind, "x", kind), raised("UnknownName", name="x"))
            self.assertEqual(outcome(SLANTED.in_one_kind, kind), raised("InvalidKind", value=kind))

    def test_in_one_kind(self):
        mixed = SLANTED.with_kind("b", "leaf")
        self.assertEqual(mixed.in_one_kind(), SLANTED)
        self.assertEqual(mixed.in_one_kind("x").places(), [("a", "x"), ("b", "x"), ("c", "x")])
        self.assertEqual(mixed.in_one_kind(kind="(").ties(), SLANTED.ties())


class StaysTest(unittest.TestCase):
    def test_passed_lists_and_returned_lists(self):
        told, ties = list(PLACES), [("a", "b", (1,)), ("a", "a", (-2,))]
        passed = copy.deepcopy((told, ties))
        book = Book(1, told, ties)
        self.assertEqual((told, ties), passed)
        text = book.text()
        told.clear()
        ties.clear()
        for returned in (book.places(), book.names(), book.ties(), book.leaving("a")):
            returned.clear()
        self.assertEqual(book.text(), text)
        self.assertEqual([len(book.places()), len(book.names()), len(book.ties()), len(book.leaving("a"))], [2, 2, 2, 3])

    def test_any_order(self):
        chance = random.Random(34)
        for book in random_books(35):
            told, ties = book.places(), [chance.choice([tie, turned_by_hand(tie)]) for tie in book.ties()]
            chance.shuffle(told)
            chance.shuffle(ties)
            same = Book(book.directions, told, ties)
            self.assertTrue(same == book)
            self.assertEqual([same.places(), same.ties(), same.text()], [book.places(), book.ties(), book.text()])


if __name__ == "__main__":
    unittest.main()
