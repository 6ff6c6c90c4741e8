"""The examples at the end of the document."""

import unittest

from endlessnets.bench import Bench
from endlessnets.books import Book
from endlessnets.classes import mark, pieces
from endlessnets.coarsebooks import CoarseBook
from endlessnets.colours import colouring
from endlessnets.far import norm
from endlessnets.keys import key
from endlessnets.lattices import Lattice
from endlessnets.leastbooks import LeastBook, hidden_shifts
from endlessnets.resting import rest
from endlessnets.samenesses import verdict
from endlessnets.settling import settled
from endlessnets.shapes import pull_table, shape, tie_squares
from endlessnets.steadiness import clash, dead_ends
from tools import outcome, raised


class ExamplesTest(unittest.TestCase):
    def test_lattice(self):
        even = Lattice(2, [(2, 0), (1, 1), (0, 2)])
        found = [even.basis(), even.cells, even.remainder((3, 2)), (3, 1) in even, even.numbers((3, 1)),
                 even.remainders()]
        self.assertEqual(found, [[(1, 1), (0, 2)], 2, (0, 1), True, (3, -1), [(0, 0), (0, 1)]])

    def test_two_pieces(self):
        net = Book(2, [("a", "node")], [("a", "a", (2, 0)), ("a", "a", (0, 1))])
        self.assertEqual([pieces(net), mark(net, ("a", (3, 5))), mark(net, ("a", (-4, 1)))],
                         [2, ("a", (1, 0)), ("a", (0, 0))])

    def test_the_comb(self):
        comb = Book(2, [("a", "node"), ("b", "node")], [("a", "b", (0, 0)), ("b", "a", (0, -1)), ("a", "b", (1, 0))])
        self.assertEqual([comb.ties(), rest(comb), pull_table(comb), shape(comb)], [
            [("a", "b", (0, 0)), ("a", "b", (0, 1)), ("a", "b", (1, 0))],
            {"a": ((0, 1), (0, 1)), "b": ((-1, 3), (-1, 3))}, (((2, 3), (-1, 3)), ((-1, 3), (2, 3))),
            (((2, 1), (1, 1)), ((1, 1), (2, 1)))])
        self.assertEqual(list(tie_squares(comb).values()), [(2, 3)] * 3)

    def test_the_wide_square(self):
        square = Book(2, [("a", "node")], [("a", "a", (1, 0)), ("a", "a", (0, 1))])
        wide = CoarseBook(square, Lattice(2, [(2, 0), (0, 1)])).book
        least = LeastBook(wide)
        word, motion = verdict(square, wide)
        found = [wide.ties(), hidden_shifts(wide), least.basis(), least.book.ties(), word, motion.matrix(),
                 motion.pictures()]
        self.assertEqual(found, [
            [("aa", "aa", (0, 1)), ("aa", "ab", (-1, 0)), ("aa", "ab", (0, 0)), ("ab", "ab", (0, 1))],
            [((1, 2), (0, 1))], (((1, 2), (0, 1)), ((0, 1), (1, 1))), [("aa", "aa", (0, 1)), ("aa", "aa", (1, 0))],
            "same", ((-1, 0), (0, -1)), {"a": ("aa", (0, 0))}])

    def test_the_chain(self):
        chain = Book(1, [("a", "node"), ("b", "leaf")], [("a", "a", (1,)), ("a", "b", (0,))])
        self.assertEqual([clash(chain), dead_ends(chain), settled(chain).places()],
                         [(("a", (0,)), ("b", (0,))), ["b"], [("a", "node(leaf)")]])

    def test_no_rest(self):
        self.assertEqual(outcome(rest, Book(2, [("a", "node")], [("a", "a", (1, 0))])), raised("Falls", many=None))

    def test_the_key(self):
        found = key(Book(1, [("a", "node")], [("a", "a", (1,))]))
        self.assertEqual(found, ((((1, 1),),), ((((0, 1),), "node", (((-1, 1),), ((1, 1),))),)))

    def test_the_square(self):
        square = Book(2, [("a", "node")], [("a", "a", (1, 0)), ("a", "a", (0, 1))])
        self.assertEqual([norm(square, (2, -3)), colouring(square)], [(5, 1), ({"a": 0}, (1, 1))])

    def test_the_bench(self):
        square = Book(2, [("a", "node")], [("a", "a", (1, 0)), ("a", "a", (0, 1))])
        bench = Bench()
        bench.do(("put", "one", square), ("copy", "one", "two"), ("tie", "two", ("a", "a", (1, 1))))
        found = [bench("nets"), bench("turns one"), bench("turns two"), bench("same one two"), bench("colours two"),
                 bench.undo(), bench("nets"), bench("rest")]
        self.assertEqual(found, ["one two", "8", "12", "no", "odd", None, "none", "unknown"])

    def test_a_wrong_text(self):
        text = "net 1\nplace a node\nplace b node\ntie a b 0\ntie b a 0\nend\n"
        self.assertEqual(outcome(Book.read, text), raised("InvalidText", line=4, why="double"))


if __name__ == "__main__":
    unittest.main()
