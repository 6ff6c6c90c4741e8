"""The examples at the end of the document, as far as their modules exist."""

import unittest

from endlessnets.books import Book
from endlessnets.classes import mark, pieces
from endlessnets.lattices import Lattice
from tools import outcome, raised


class ExamplesTest(unittest.TestCase):
    def test_lattice(self):
        even = Lattice(2, [(2, 0), (1, 1), (0, 2)])
        found = [even.basis(), even.cells, even.remainder((3, 2)), (3, 1) in even, even.numbers((3, 1)),
                 even.remainders()]
        self.assertEqual(found, [[(1, 1), (0, 2)], 2, (0, 1), True, (3, -1), [(0, 0), (0, 1)]])

    def test_two_pieces(self):
        net = Book(2, [("a", "node")], [("a", "a", (2, 0)), ("a", "a", (0, 1))])
        self.assertEqual([pieces(net), mark(net, ("a", (3, 5))), mark(net, ("a", (-4, 1)))],
                         [2, ("a", (1, 0)), ("a", (0, 0))])

    def test_ties_of_the_comb(self):
        comb = Book(2, [("a", "node"), ("b", "node")], [("a", "b", (0, 0)), ("b", "a", (0, -1)), ("a", "b", (1, 0))])
        self.assertEqual(comb.ties(), [("a", "b", (0, 0)), ("a", "b", (0, 1)), ("a", "b", (1, 0))])

    def test_a_wrong_text(self):
        text = "net 1\nplace a node\nplace b node\ntie a b 0\ntie b a 0\nend\n"
        self.assertEqual(outcome(Book.read, text), raised("InvalidText", line=4, why="double"))


if __name__ == "__main__":
    unittest.main()
