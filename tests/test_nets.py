"""Net objects ([40])."""

import random
import unittest

from endlessnets.books import Book
from endlessnets.classes import is_whole
from endlessnets.coarsebooks import CoarseBook
from endlessnets.keys import settled_key
from endlessnets.lattices import Lattice
from endlessnets.leastbooks import LeastBook
from endlessnets.motions import Motion
from endlessnets.nets import Net
from endlessnets.resting import rest
from endlessnets.settling import settled
from endlessnets.steadiness import clash, is_steady
from endlessnets.turns import turns
from endlessnets.vectors import identity
from samples import ALL, CHAIN, COMB, CUBE, DOTS, FALLING, LADDER, SQUARE, TREE, TWINNED, TWO_PIECES, WIDE, plain
from samples import random_books
from test_books import NAMES
from tools import ANY_VALUES, emptied, gives_new, outcome, raised

WIDER = Lattice(2, [(2, 0), (0, 1)])
HUNG = LADDER.with_place("aa", "leaf").with_tie(("a", "aa", (0,)))
LENGTHY = CHAIN.with_place("b", "x" * 1995).with_tie(("a", "b", (0,)))
NO_LABELS = [value for value in ANY_VALUES if value not in ("", "a")] + ["abcdefg", "A", " ", "a b", "a\n", ("a",), ["a"]]


def answers(net):
    """All that a net object tells."""
    told = [outcome(call) for call in (net.rest, net.key, net.turns)]
    return [net.present, net.label, net.changes, len(net), repr(net), net.is_whole(), net.is_steady(), *told]


def answers_of(book, label="", changes=0):
    """All that a net object with a book must tell."""
    def found_turns():
        return turns(LeastBook(settled(book)).book)
    steady = is_whole(book) and is_steady(book)
    told = [outcome(rest, book), outcome(settled_key, book), outcome(found_turns)]
    return [book, label, changes, len(book), f"Net({len(book)} places, {len(book.ties())} ties)", is_whole(book),
            steady, *told]


class NetTest(unittest.TestCase):
    def check_change(self, book, call, found, label="kept"):
        """A change by a call, with a net object as its argument, gives a book or an error."""
        net = Net(book, label=label)
        result = outcome(call, net)
        if found[0] == "returned":
            self.assertEqual(result, ("returned", None))
            self.assertEqual((net.present, net.label, net.changes), (found[1], label, 1))
        else:
            self.assertEqual(result, found)
            self.assertEqual((net.present, net.label, net.changes), (book, label, 0))
        again = outcome(call, net)
        self.assertEqual(net.changes, [found[0], again[0]].count("returned"))
        self.assertIs(bool(net), True)

    def test_new(self):
        for book in ALL + random_books(581, 10) + [TREE, TWINNED, HUNG, LENGTHY]:
            text = book.text()
            net = Net(book)
            self.assertEqual(answers(net), answers_of(book))
            self.assertEqual(answers(net), answers_of(book))
            self.assertEqual(answers(Net(label="abc", book=book)), answers_of(book, "abc"))
            self.assertEqual(book.text(), text)
            self.assertIs(bool(net), True)
        self.assertRaises(TypeError, Net, CHAIN, "abc")

    def test_wrong_constructors(self):
        for value in ANY_VALUES:
            if not isinstance(value, Book):
                for label in ("", "a", "A", None):
                    self.assertEqual(outcome(Net, value, label=label), raised("InvalidBook"))
        for value in NO_LABELS:
            self.assertEqual(outcome(Net, CHAIN, label=value), raised("InvalidName", value=value))

    def test_labels(self):
        for label in ("", "a", "abcdef"):
            for assign in (False, True):
                net = Net(COMB, label="old")
                if assign:
                    net.label = label
                else:
                    self.assertIsNone(net.relabel(label=label))
                self.assertEqual(answers(net), answers_of(COMB, label))
        net = Net(COMB, label="old")
        net.strike(COMB.ties()[0])
        for value in NO_LABELS:
            self.assertEqual(outcome(net.relabel, value), raised("InvalidName", value=value))
            self.assertEqual(outcome(setattr, net, "label", value), raised("InvalidName", value=value))
            self.assertEqual((net.label, net.changes), ("old", 1))
        for name in ("present", "changes"):
            self.assertRaises(AttributeError, setattr, net, name, 3)

    def test_add_tie(self):
        for tie in [("a", "b", (5, 5)), ("b", "a", (5, -5)), ("a", "a", (0, 1)), ("a", "b", (0, 0)), ("b", "a", (0, 0)),
                    ("a", "c", (0, 0)), ("c", "d", (1, 1)), ("b", "b", (0, 0)), ("c", "c", (0, 0)), *ANY_VALUES]:
            found = outcome(COMB.with_tie, tie)
            self.check_change(COMB, lambda net, told=tie: net.add_tie(told), found)
            self.check_change(COMB, lambda net, told=tie: net.add_tie(tie=told), found)
        net = Net(COMB)
        self.assertEqual(outcome(net.add_tie, None), raised("InvalidTie", at=3))
        full = Net(plain(1, "a", [("a", "a", (number,)) for number in range(1, 401)]))
        self.assertEqual(outcome(full.add_tie, None), raised("TooMany", most=400))

    def test_strike(self):
        for tie in [*COMB.ties(), ("b", "a", (0, -1)), ("a", "b", (9, 9)), *ANY_VALUES]:
            found = outcome(COMB.without, tie)
            self.check_change(COMB, lambda net, told=tie: net.strike(told), found)
            self.check_change(COMB, lambda net, told=tie: net.strike(tie=told), found)
        self.assertEqual(outcome(Net(COMB).strike, ("a", "b", (9, 9))), raised("UnknownTie", tie=("a", "b", (9, 9))))

    def test_add_place(self):
        for name in ["c", "abcdef", "a", *ANY_VALUES]:
            self.check_change(COMB, lambda net, told=name: net.add_place(told), outcome(COMB.with_place, name))
            for kind in ["x(y)", "", "node", "X", 5, None]:
                found = outcome(COMB.with_place, name, kind)
                self.check_change(COMB, lambda net, told=name, more=kind: net.add_place(told, more), found)
                self.check_change(COMB, lambda net, told=name, more=kind: net.add_place(kind=more, name=told), found)
        full = Net(plain(1, NAMES[:64], []))
        self.assertEqual(outcome(full.add_place, "zz"), raised("TooMany", most=64))
        self.assertEqual(outcome(full.add_place, "A", "B"), raised("InvalidName", value="A"))
        self.assertEqual(outcome(full.add_place, "zz", "B"), raised("InvalidKind", value="B"))

    def test_remove_place(self):
        for name in ["a", "b", "c", *ANY_VALUES]:
            found = outcome(COMB.without_place, name)
            self.check_change(COMB, lambda net, told=name: net.remove_place(told), found)
            self.check_change(COMB, lambda net, told=name: net.remove_place(name=told), found)
        self.check_change(SQUARE, lambda net: net.remove_place("a"), raised("InvalidPlace", at=-1))
        self.check_change(SQUARE, lambda net: net.remove_place("b"), raised("UnknownName", name="b"))

    def test_paint(self):
        for name in ["a", "b", "c", *ANY_VALUES]:
            for kind in ["node", "leaf", "", "K", None, "x" * 2000, "x" * 2001]:
                found = outcome(COMB.with_kind, name, kind)
                self.check_change(COMB, lambda net, told=name, more=kind: net.paint(told, more), found)
                self.check_change(COMB, lambda net, told=name, more=kind: net.paint(kind=more, name=told), found)

    def test_retell(self):
        motion = Motion(((1, 1), (0, 1)), {"a": ("z", (1, 2)), "b": ("y", (0, -7))})
        for value in [motion, Motion.staying(COMB), Motion.staying(SQUARE), Motion.staying(CHAIN), motion.matrix(),
                      *ANY_VALUES]:
            found = outcome(motion.carry, COMB) if value is motion else raised("Misfit")
            if isinstance(value, Motion) and value.fits(COMB):
                found = outcome(value.carry, COMB)
            self.check_change(COMB, lambda net, told=value: net.retell(told), found)
            self.check_change(COMB, lambda net, told=value: net.retell(motion=told), found)

    def test_coarsen(self):
        for value in [WIDER, Lattice(2, [(1, 0)]), Lattice(2, identity(2)), Lattice(1, [(3,)]), Lattice(2, [(33, 0), (0, 1)]),
                      Lattice(2, [(32, 0), (0, 1)]), *ANY_VALUES]:
            found = outcome(CoarseBook, COMB, value)
            if found[0] == "returned":
                found = ("returned", found[1].book)
            self.check_change(COMB, lambda net, told=value: net.coarsen(told), found)
            self.check_change(COMB, lambda net, told=value: net.coarsen(lattice=told), found)
        self.assertEqual(outcome(Net(COMB).coarsen, None), raised("InvalidLattice"))
        self.assertEqual(outcome(Net(COMB).coarsen, Lattice(2, [(33, 0), (0, 1)])), raised("TooMany", most=64))

    def test_reduce_and_settle(self):
        for book in [COMB, WIDE, TREE, TWINNED, LADDER, HUNG, LENGTHY, TWO_PIECES, DOTS, CUBE, *random_books(582, 20)]:
            found = outcome(LeastBook, book)
            if found[0] == "returned":
                found = ("returned", found[1].book)
            self.check_change(book, Net.reduce, found)
            self.check_change(book, Net.settle, outcome(settled, book))
        self.assertEqual(outcome(Net(LENGTHY).settle), raised("TooMany", most=2000))
        self.assertEqual(outcome(Net(LADDER).reduce), raised("Unsteady", one=clash(LADDER)[0], other=clash(LADDER)[1]))

    def test_equal_books_count(self):
        net = Net(COMB)
        net.paint("a", "node")
        net.settle()
        net.reduce()
        net.retell(Motion.staying(COMB))
        self.assertEqual(answers(net), answers_of(COMB, "", 4))

    def changed(self, book, word, tie):
        """The outcome of a change of a book by a method of net objects, with the book that it gives."""
        if word == "add_tie":
            return outcome(book.with_tie, tie)
        if word == "strike":
            return outcome(book.without, tie)
        if word == "settle":
            return outcome(settled, book)
        found = outcome(LeastBook, book)
        return ("returned", found[1].book) if found[0] == "returned" else found

    def test_many_changes(self):
        """The answers are those for the present book, also when they are asked between the changes."""
        chance = random.Random(583)
        for book in [SQUARE, COMB, WIDE, *random_books(584, 10)]:
            net, changes = Net(book, label="some"), 0
            for _ in range(12):
                names = book.names()
                tie = (names[0], names[-1], tuple(chance.randint(-9, 9) for _ in range(book.directions)))
                word = chance.choice(["add_tie", "add_tie", "strike", "settle", "reduce"])
                if word == "strike" and book.ties():
                    tie = chance.choice(book.ties())
                found = self.changed(book, word, tie)
                done = outcome(getattr(net, word), *([tie] if word in ("add_tie", "strike") else []))
                if found[0] == "returned":
                    book, changes = found[1], changes + 1
                    self.assertEqual(done, ("returned", None))
                else:
                    self.assertEqual(done, found)
                self.assertEqual(answers(net), answers_of(book, "some", changes))

    def test_errors_of_answers(self):
        for book, many in FALLING:
            net = Net(book)
            for call in (net.rest, net.key, net.turns):
                self.assertEqual(outcome(call), raised("Falls", many=many))
        one, other = clash(LADDER)
        self.assertEqual(clash(HUNG)[1][0], "aa")
        for book in (LADDER, HUNG):
            for call in (Net(book).key, Net(book).turns):
                self.assertEqual(outcome(call), raised("Unsteady", one=one, other=other))
            self.assertEqual(outcome(Net(book).rest), ("returned", rest(book)))
        for call in (Net(LENGTHY).key, Net(LENGTHY).turns):
            self.assertEqual(outcome(call), raised("TooMany", most=2000))
        self.assertEqual(outcome(Net(LENGTHY).rest), ("returned", rest(LENGTHY)))

    def test_new_values(self):
        net = Net(COMB)
        gives_new(self, net.rest)
        gives_new(self, net.turns)
        emptied(net.present.places())
        self.assertEqual(answers(net), answers_of(COMB))

    def test_twins(self):
        net = Net(COMB, label="one")
        net.strike(COMB.ties()[0])
        other = net.twin()
        self.assertIsNot(other, net)
        self.assertEqual(answers(other), answers(net))
        before = answers(net)
        other.add_place("z")
        other.relabel("two")
        self.assertEqual(answers(net), before)
        after = answers(other)
        net.remove_place("b")
        net.label = ""
        self.assertEqual(answers(other), after)

    def test_books_stay(self):
        text = COMB.text()
        net = Net(COMB)
        told = net.present
        net.paint("a", "other")
        net.remove_place("b")
        self.assertEqual((COMB.text(), told.text()), (text, text))
        self.assertEqual(net.present.places(), [("a", "other")])
        self.assertEqual((len(net), repr(net)), (1, "Net(1 places, 0 ties)"))
        self.assertFalse(net == Net(net.present))


if __name__ == "__main__":
    unittest.main()
