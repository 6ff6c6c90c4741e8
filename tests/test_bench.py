"""Benches, deeds, the history and the shelf ([41])."""

import random
import unittest

from endlessnets.bench import Bench
from endlessnets.books import Book
from endlessnets.coarsebooks import CoarseBook
from endlessnets.keys import settled_key
from endlessnets.lattices import Lattice
from endlessnets.leastbooks import LeastBook
from endlessnets.motions import Motion
from endlessnets.nets import Net
from endlessnets.settling import settled
from endlessnets.steadiness import clash
from endlessnets.vectors import identity
from samples import ALL, BEADS, CHAIN, COMB, CUBE, DIAMOND, HEXAGONAL, LADDER, SKEW, SQUARE, TREE, TWINNED, TWO_PIECES
from samples import WIDE, plain, random_books
from test_nets import HUNG, LENGTHY, NO_LABELS, WIDER
from tools import ANY_VALUES, emptied, outcome, raised

NO_NAMES = [value for value in NO_LABELS if value != "A"] + ["A", ""]
MOTION = Motion(((1, 1), (0, 1)), {"a": ("z", (1, 2)), "b": ("y", (0, -7))})
# Each deed of a change, with the method and its arguments.
CHANGES = [("tie", "add_tie", (("a", "b", (5, 5)),)), ("strike", "strike", (("b", "a", (0, -1)),)),
           ("add", "add_place", ("c", "leaf")), ("remove", "remove_place", ("b",)), ("paint", "paint", ("a", "leaf")),
           ("retell", "retell", (MOTION,)), ("coarsen", "coarsen", (WIDER,)), ("reduce", "reduce", ()),
           ("settle", "settle", ())]
SIZES = {"put": 3, "copy": 3, "drop": 2, "tie": 3, "strike": 3, "add": 4, "remove": 3, "paint": 4, "retell": 3,
         "coarsen": 3, "reduce": 2, "settle": 2, "shelve": 3, "clear": 2}


def state(bench):
    """All that a bench tells but its papers."""
    nets = [bench.net(name) for name in bench.names()]
    told = [(net.present, net.label, net.changes) for net in nets]
    return [bench.names(), told, bench.shelf(), bench.history(), bench.journal(), bench.log(), bench.busy, bench.text(),
            len(bench), repr(bench)]


def some_bench():
    """A bench with nets, a shelf and a history."""
    bench = Bench()
    bench.do(("put", "one", COMB), ("put", "two", WIDE))
    bench.do(("shelve", "two", "square"))
    bench.do(("copy", "one", "three"), ("strike", "three", ("a", "b", (0, 1))))
    bench.say("nets")
    bench.do(("tie", "two", ("aa", "aa", (3, 3))), ("settle", "two"))
    bench.do(("drop", "one"))
    bench.undo()
    return bench


class BenchCase(unittest.TestCase):
    def fails(self, bench, error, *deeds):
        """A call with an error leaves everything as it was."""
        before = state(bench)
        for call in (bench.do, bench.tried):
            self.assertEqual(outcome(call, *deeds), error, deeds)
            self.assertEqual(state(bench), before)
            self.assertIs(bench.busy, False)

    def does(self, bench, *deeds):
        """A call is one step; what it would do is told ahead of it."""
        before, (done, _), journal = state(bench), bench.history(), bench.journal()
        text = bench.tried(*deeds)
        self.assertEqual(state(bench), before)
        self.assertIsNone(bench.do(*deeds))
        self.assertEqual(bench.text(), text)
        self.assertEqual(bench.history(), (done + 1, 0) if deeds else before[3])
        self.assertEqual(bench.journal(), journal + list(deeds))
        self.assertIs(bench.busy, False)


class DeedTest(BenchCase):
    def test_an_empty_bench(self):
        bench = Bench()
        self.assertEqual(state(bench), [[], [], [], (0, 0), [], [], False, "", 0, "Bench(0 nets, 0 on the shelf)"])
        self.assertIs(bool(bench), True)
        self.does(bench)
        self.assertEqual(bench.history(), (0, 0))
        self.assertRaises(AttributeError, setattr, bench, "busy", True)

    def test_put(self):
        bench = Bench()
        for at, book in enumerate(ALL):
            name = "n" + "abcdefghijklmnopqrstuvwxyz"[at]
            self.does(bench, ("put", name, book))
            net = bench.net(name)
            self.assertEqual((net.present, net.label, net.changes), (book, "", 0))
            self.assertIn(name, bench)
        self.assertEqual((len(bench), bench.names()), (len(ALL), sorted(bench.names())))
        for value in NO_NAMES:
            self.fails(bench, raised("InvalidName", value=value), ("put", value, None))
        self.fails(bench, raised("Taken", name="na"), ("put", "na", None))
        for value in ANY_VALUES:
            if not isinstance(value, Book):
                self.fails(bench, raised("InvalidBook"), ("put", "new", value))

    def test_copy_and_drop(self):
        bench = some_bench()
        self.does(bench, ("copy", "two", "copy"))
        self.assertEqual((bench.net("copy").present, bench.net("copy").changes), (bench.net("two").present, 0))
        self.assertEqual(bench.net("two").changes, 2)
        self.does(bench, ("drop", "copy"), ("copy", "one", "copy"))
        self.assertEqual(bench.net("copy").present, COMB)
        for value in [*ANY_VALUES, "nobody", "square"]:
            self.fails(bench, raised("UnknownName", name=value), ("copy", value, None))
            self.fails(bench, raised("UnknownName", name=value), ("drop", value))
        for value in NO_NAMES:
            self.fails(bench, raised("InvalidName", value=value), ("copy", "one", value))
        for name in ("one", "two", "copy"):
            self.fails(bench, raised("Taken", name=name), ("copy", "one", name))

    def test_changes(self):
        for word, method, told in CHANGES:
            bench = Bench()
            bench.do(("put", "one", COMB))
            net = Net(COMB)
            getattr(net, method)(*told)
            self.does(bench, (word, "one", *told))
            self.assertEqual((bench.net("one").present, bench.net("one").changes), (net.present, 1))
            for value in [*ANY_VALUES, "nobody"]:
                self.fails(bench, raised("UnknownName", name=value), (word, value, *told))
                self.fails(bench, raised("UnknownName", name=value), (word, value, *[None for _ in told]))

    def test_errors_of_changes(self):
        bench = Bench()
        books = {"comb": COMB, "wide": WIDE, "ladder": LADDER, "falls": TWO_PIECES, "long": LENGTHY, "alone": CHAIN}
        bench.do(*[("put", name, book) for name, book in books.items()])
        wrong = {"tie": [(("a", "b", (0, 0)),), (("b", "a", (0, 0)),), (("a", "q", (0, 0)),), (("a", "a", (0, 0)),)],
                 "strike": [(("a", "b", (7, 7)),)], "add": [("a", "node"), ("A", "B"), ("c", "B"), ("c", "")],
                 "remove": [("c",), ("aa",)], "paint": [("c", "B"), ("a", "B"), ("a", "")],
                 "retell": [(Motion.staying(CUBE),), (COMB,)],
                 "coarsen": [(Lattice(2, [(33, 0), (0, 1)]),), (Lattice(2, [(1, 0)]),), (Lattice(3, identity(3)),)],
                 "reduce": [()], "settle": [()]}
        tried = set()
        for word, method, told in CHANGES:
            for value in [*wrong[word], *[(value,) * len(told) for value in ANY_VALUES if told]]:
                for name, book in books.items():
                    found = outcome(getattr(Net(book), method), *value)
                    if found[0] != "returned":
                        self.fails(bench, found, (word, name, *value))
                        tried.add((word, found[0]))
        codes = {"tie": ["InvalidTie", "TwiceTold", "UnknownName", "Itself"], "strike": ["UnknownTie"], "retell": ["Misfit"],
                 "add": ["DuplicateName", "InvalidName", "InvalidKind"], "remove": ["UnknownName", "InvalidPlace"],
                 "paint": ["UnknownName", "InvalidKind"], "coarsen": ["InvalidLattice", "TooMany"],
                 "reduce": ["Falls", "Unsteady"], "settle": ["Falls", "TooMany"]}
        self.assertLessEqual({(word, code) for word in codes for code in codes[word] if code != "InvalidPlace"}, tried)
        self.fails(bench, raised("InvalidPlace", at=-1), ("remove", "alone", "a"))
        self.fails(bench, raised("InvalidTie", at=3), ("tie", "comb", None))

    def test_what_are_no_deeds(self):
        bench = some_bench()
        right = ("copy", "one", "four")
        values = [*ANY_VALUES, ["drop", "one"], ("drops", "one"), ("Drop", "one"), ("",), (None, "one"), (["drop"], "one"),
                  (True, "one"), ("nets",), ("undo",), ("relabel", "one", "x"), ("far", "one")]
        for word, size in SIZES.items():
            items = ["one", "x", "y", "z"]
            values += [(word, *items[:many]) for many in range(5) if many + 1 != size]
        for value in values:
            self.fails(bench, raised("InvalidDeed", at=0), value)
            self.fails(bench, raised("InvalidDeed", at=1), right, value)
            self.fails(bench, raised("InvalidDeed", at=2), ("drop", "nobody"), right, value, None)

    def test_several_deeds(self):
        bench = Bench()
        self.does(bench, ("put", "a", SQUARE), ("copy", "a", "b"), ("tie", "b", ("a", "a", (1, 1))), ("add", "a", "b", "leaf"),
                  ("tie", "a", ("b", "a", (0, 0))), ("shelve", "b", "hex"), ("copy", "a", "c"), ("drop", "a"),
                  ("settle", "c"), ("paint", "c", "a", "node"))
        self.assertEqual(bench.names(), ["b", "c"])
        self.assertEqual((bench.net("b").present, bench.net("c").present), (HEXAGONAL, SQUARE))
        self.assertEqual((bench.net("b").changes, bench.net("c").changes), (1, 2))
        self.assertEqual(bench.shelf(), [("hex", HEXAGONAL)])
        self.assertEqual(bench.history(), (1, 0))
        bench.undo()
        self.assertEqual(state(bench)[:3], [[], [], []])

    def test_all_or_none(self):
        bench = some_bench()
        right = [("copy", "one", "four"), ("strike", "four", ("a", "b", (0, 0))), ("drop", "two"), ("clear", "square"),
                 ("put", "five", DIAMOND), ("shelve", "five", "dia")]
        for wrong, error in ((("drop", "two"), raised("UnknownName", name="two")),
                             (("copy", "one", "five"), raised("Taken", name="five")),
                             (("clear", "square"), raised("UnknownName", name="square")),
                             (("shelve", "four", "dia"), raised("Taken", name="dia")),
                             (("shelve", "five", "more"), raised("Known", name="dia")),
                             (("shelve", "four", "more"), raised("Falls", many=None)),
                             (("strike", "four", ("a", "b", (0, 0))), raised("UnknownTie", tie=("a", "b", (0, 0)))),
                             (("put", "six", None), raised("InvalidBook"))):
            self.fails(bench, error, *right, wrong)
            self.fails(bench, error, *right, wrong, ("drop", "nobody"))
        self.does(bench, *right)
        # The first wrong deed counts.
        self.fails(bench, raised("UnknownName", name="x"), ("drop", "x"), ("drop", "y"), ("put", "A", None))

    def test_arguments_stay(self):
        bench = Bench()
        deed = ("put", "one", COMB)
        deeds = [deed, ("drop", "one"), deed]
        bench.do(*deeds)
        self.assertEqual(deeds, [deed, ("drop", "one"), deed])
        self.assertEqual(bench.journal(), deeds)


class ShelfTest(BenchCase):
    def test_shelve(self):
        bench = Bench()
        books = {"comb": COMB, "wide": WIDE, "tree": TREE, "twin": TWINNED, "beads": BEADS, "skew": SKEW}
        for name, book in books.items():
            self.does(bench, ("put", name, book))
        shelf = []
        for name in ("wide", "comb", "twin", "skew", "tree"):
            self.does(bench, ("shelve", name, name))
            shelf.append((name, LeastBook(settled(books[name])).book))
            self.assertEqual(bench.shelf(), shelf)
            self.assertEqual(repr(bench), f"Bench(6 nets, {len(shelf)} on the shelf)")
        self.assertNotEqual(settled_key(TWINNED), settled_key(TREE))
        self.does(bench, ("drop", "skew"))
        self.assertEqual(bench.shelf(), shelf)

    def test_known(self):
        bench = Bench()
        bench.do(("put", "square", SQUARE), ("put", "wide", WIDE), ("put", "beads", BEADS), ("put", "chain", CHAIN))
        bench.do(("shelve", "wide", "x"), ("shelve", "chain", "y"))
        for name, label in (("square", "x"), ("wide", "x"), ("beads", "y"), ("chain", "y")):
            self.fails(bench, raised("Known", name=label), ("shelve", name, "z"))
        self.does(bench, ("clear", "x"), ("shelve", "square", "z"))
        self.assertEqual(bench.shelf(), [("y", CHAIN), ("z", SQUARE)])
        self.does(bench, ("clear", "y"), ("shelve", "beads", "y"))
        self.assertEqual([label for label, _ in bench.shelf()], ["z", "y"])
        self.assertEqual(bench.shelf()[1][1], LeastBook(BEADS).book)
        self.does(bench, ("paint", "square", "a", "other"), ("shelve", "square", "x"))

    def test_errors_in_order(self):
        bench = Bench()
        bench.do(("put", "falls", TWO_PIECES), ("put", "long", LENGTHY), ("put", "hung", HUNG), ("put", "comb", COMB))
        bench.do(("shelve", "comb", "x"))
        for value in [*ANY_VALUES, "nobody", "x"]:
            self.fails(bench, raised("UnknownName", name=value), ("shelve", value, "x"))
            self.fails(bench, raised("UnknownName", name=value), ("shelve", value, None))
        for value in NO_NAMES:
            for name in ("falls", "long", "hung", "comb"):
                self.fails(bench, raised("InvalidName", value=value), ("shelve", name, value))
        for name in ("falls", "long", "hung", "comb"):
            self.fails(bench, raised("Taken", name="x"), ("shelve", name, "x"))
        one, other = clash(LADDER)
        self.fails(bench, raised("Falls", many=2), ("shelve", "falls", "y"))
        self.fails(bench, raised("TooMany", most=2000), ("shelve", "long", "y"))
        self.fails(bench, raised("Unsteady", one=one, other=other), ("shelve", "hung", "y"))
        self.fails(bench, raised("Known", name="x"), ("shelve", "comb", "y"))
        both = HUNG.with_kind("aa", "x" * 2000)
        bench.do(("put", "both", both))
        self.fails(bench, raised("TooMany", most=2000), ("shelve", "both", "y"))

    def test_clear(self):
        bench = some_bench()
        for value in [*ANY_VALUES, "nobody", "one", "two"]:
            self.fails(bench, raised("UnknownName", name=value), ("clear", value))
        self.does(bench, ("clear", "square"))
        self.assertEqual(bench.shelf(), [])
        self.fails(bench, raised("UnknownName", name="square"), ("clear", "square"))


class HistoryTest(BenchCase):
    def test_there_and_back(self):
        bench = Bench()
        states = [state(bench)]
        for deeds in ([("put", "one", COMB)], [("copy", "one", "two"), ("settle", "two")], [("tie", "two", ("a", "a", (1, 0)))],
                      [("shelve", "one", "comb")], [("drop", "one"), ("clear", "comb")], [("paint", "two", "a", "x")]):
            bench.do(*deeds)
            states.append(state(bench))
        many = len(states) - 1
        for undone in range(1, many + 1):
            self.assertIsNone(bench.undo())
            self.same_nets(bench, states[many - undone], (many - undone, undone))
        self.assertEqual(outcome(bench.undo), raised("NothingLeft"))
        for done in range(1, many + 1):
            self.assertIsNone(bench.redo())
            self.same_nets(bench, states[done], (done, many - done))
        self.assertEqual(outcome(bench.redo), raised("NothingLeft"))
        self.assertEqual(state(bench), states[-1])

    def same_nets(self, bench, told, history):
        found = state(bench)
        self.assertEqual(found[:3] + found[4:], told[:3] + told[4:])
        self.assertEqual(bench.history(), history)

    def test_new_steps(self):
        bench = some_bench()
        self.assertEqual(bench.history(), (4, 1))
        self.fails(bench, raised("UnknownName", name="x"), ("drop", "two"), ("drop", "x"))
        self.fails(bench, raised("InvalidDeed", at=0), None)
        bench.do()
        bench.tried(("drop", "two"))
        self.assertEqual(bench.history(), (4, 1))
        bench.undo()
        self.does(bench, ("drop", "two"))
        self.assertEqual(bench.history(), (4, 0))
        self.assertEqual(outcome(bench.redo), raised("NothingLeft"))
        self.assertEqual(outcome(Bench().undo), raised("NothingLeft"))
        self.assertEqual(outcome(Bench().redo), raised("NothingLeft"))

    def test_journals(self):
        chance = random.Random(601)
        longest = 0
        for seed in range(6):
            bench = Bench()
            books = random_books(602 + seed, 4) + [SQUARE, COMB, WIDE]
            for _ in range(60):
                self.one_step(chance, bench, books)
                again = Bench()
                again.do(*bench.journal())
                self.assertTrue(again == bench)
                self.assertEqual(again.text(), bench.text())
                self.assertEqual([again.net(name).changes for name in again.names()],
                                 [bench.net(name).changes for name in bench.names()])
                longest = max(longest, len(bench.journal()))
        self.assertGreater(longest, 8)

    def one_step(self, chance, bench, books):
        if chance.randint(0, 3) == 0:
            outcome(bench.undo if chance.randint(0, 2) else bench.redo)
            return
        names = [*bench.names(), "new"]
        deeds = [("put", chance.choice("abc"), chance.choice(books)), ("copy", chance.choice(names), chance.choice("abcd")),
                 ("drop", chance.choice(names)), ("settle", chance.choice(names)), ("reduce", chance.choice(names)),
                 ("paint", chance.choice(names), "a", chance.choice(["x", "y"])), ("shelve", chance.choice(names), "s"),
                 ("clear", "s"), ("add", chance.choice(names), "z", "leaf")]
        outcome(bench.do, *chance.sample(deeds, chance.randint(1, 2)))

    def test_played_on_an_empty_bench(self):
        bench = some_bench()
        journal = bench.journal()
        again = Bench()
        again.do(*journal)
        self.assertTrue(again == bench)
        bench.undo()
        self.assertEqual(bench.journal(), journal[:5])
        bench.redo()
        self.assertEqual(bench.journal(), journal)


class OtherTest(BenchCase):
    def test_net(self):
        bench = some_bench()
        net = bench.net(name="two")
        self.assertEqual((net.changes, net.label), (2, ""))
        before = state(bench)
        net.add_place("q")
        net.relabel("other")
        self.assertEqual(state(bench), before)
        self.assertEqual(bench.net("two").changes, 2)
        for value in [*ANY_VALUES, "nobody", "square"]:
            self.assertEqual(outcome(bench.net, value), raised("UnknownName", name=value))

    def test_new_lists(self):
        bench = some_bench()
        before = state(bench)
        for call in (bench.names, bench.shelf, bench.journal, bench.log):
            found = call()
            self.assertIsInstance(found, list)
            emptied(found)
            self.assertEqual(state(bench), before)

    def test_twins(self):
        bench = some_bench()
        twin = bench.twin()
        self.assertEqual(state(twin), state(bench))
        self.assertTrue(twin == bench)
        for one, other in ((bench, twin), (twin, bench)):
            before = state(other)
            one.do(("drop", "three"))
            one.say("nets")
            one.undo()
            one.undo()
            self.assertEqual(state(other), before)
        self.assertEqual(twin.log()[-1], ("nets", "one two"))
        again = bench.twin()
        again.redo()
        again.undo()
        again.undo()
        self.assertEqual((bench.history(), again.history()), ((3, 2), (2, 3)))

    def test_equality(self):
        one, other = some_bench(), Bench()
        self.assertFalse(one == other)
        for deed in one.journal():
            other.do(deed)
        self.assertTrue(one == other)
        self.assertFalse(one != other)
        other.say("nets")
        self.assertTrue(one == other)
        other.do(("paint", "one", "a", "node"))
        self.assertTrue(one == other)
        for deed in (("paint", "one", "a", "x"), ("drop", "one"), ("put", "x", COMB), ("clear", "square")):
            again = one.twin()
            again.do(deed)
            self.assertFalse(one == again)
            self.assertTrue(one != again)
        relabelled = one.twin()
        relabelled.do(("clear", "square"), ("shelve", "two", "square"))
        self.assertFalse(one == relabelled)
        orders = [Bench(), Bench()]
        for bench, names in zip(orders, (("a", "b"), ("b", "a"))):
            bench.do(*[("put", name, {"a": SQUARE, "b": CUBE}[name]) for name in names])
        self.assertTrue(orders[0] == orders[1])
        for bench, names in zip(orders, (("a", "b"), ("b", "a"))):
            bench.do(*[("shelve", name, name) for name in names])
        self.assertFalse(orders[0] == orders[1])
        for value in ANY_VALUES:
            self.assertEqual(Bench() == value, isinstance(value, Bench))

    def test_names(self):
        bench = some_bench()
        for value in [*ANY_VALUES, "square", "four", "one "]:
            self.assertIs(value in bench, False)
        self.assertEqual([name in bench for name in ("one", "two", "three")], [True] * 3)
        self.assertEqual((len(bench), repr(bench)), (3, "Bench(3 nets, 1 on the shelf)"))
        bench.do(("drop", "one"), ("drop", "two"))
        self.assertEqual((len(bench), repr(bench)), (1, "Bench(1 nets, 1 on the shelf)"))

    def test_text(self):
        bench = some_bench()
        two = bench.net("two").present
        three = COMB.without(("a", "b", (0, 1)))
        least = LeastBook(WIDE).book
        self.assertEqual(bench.text(), f"book one\n{COMB.text()}book three\n{three.text()}book two\n{two.text()}"
                                       f"shelf square\n{least.text()}")

    def test_coarse_deeds(self):
        bench = Bench()
        bench.do(("put", "one", SQUARE), ("coarsen", "one", WIDER))
        self.assertEqual(bench.net("one").present, CoarseBook(SQUARE, WIDER).book)
        bench.do(("reduce", "one"))
        self.assertEqual(bench.net("one").present, LeastBook(CoarseBook(SQUARE, WIDER).book).book)
        self.assertEqual(bench.net("one").changes, 2)
        net = plain(1, "ab", [("a", "b", (0,)), ("b", "a", (1,))])
        bench.do(("put", "two", net))
        self.assertEqual(bench.net("two").present, net)


if __name__ == "__main__":
    unittest.main()
