"""The texts of benches ([43])."""

import itertools
import random
import unittest

from endlessnets.bench import Bench
from endlessnets.benchtexts import read_bench, write_bench
from endlessnets.books import Book
from endlessnets.leastbooks import LeastBook
from samples import ALL, BEADS, CHAIN, COMB, CUBE, DIAMOND, HEXAGONAL, LADDER, SKEW, SQUARE, TREE, TWO_PIECES, WIDE
from samples import random_books, turned_by_hand
from test_bench import some_bench, state
from test_settling import READABLE
from tools import ANY_VALUES, outcome, raised

NET = "book {}\nnet 1\nplace a node\ntie a a 1\nend\n"
SHELF = "shelf {}\nnet 1\nplace a {}\ntie a a 1\nend\n"


def shuffled(chance, book):
    """The text of a book with its places and ties in another order, and its ties told from either end."""
    places = [f"place {name} {kind}\n" for name, kind in book.places()]
    ties = [chance.choice([tie, turned_by_hand(tie)]) for tie in book.ties()]
    rows = [" ".join(["tie", tie[0], tie[1], *map(str, tie[2])]) + "\n" for tie in ties]
    chance.shuffle(places)
    chance.shuffle(rows)
    return "".join([f"net {book.directions}\n", *places, *rows, "end\n"])


class ReadTest(unittest.TestCase):
    def check(self, text, line, why):
        self.assertEqual(outcome(read_bench, text), raised("InvalidText", line=line, why=why), text[-80:])

    def test_written(self):
        bench = some_bench()
        self.assertEqual(write_bench(bench), bench.text())
        self.assertEqual(write_bench(bench=bench), bench.text())
        self.assertEqual(write_bench(Bench()), "")
        bench = Bench()
        bench.do(("put", "zz", CHAIN), ("put", "b", CHAIN.with_kind("a", "x(y)")), ("shelve", "zz", "k"),
                 ("shelve", "b", "a"))
        self.assertEqual(bench.text(), NET.format("b").replace("node", "x(y)") + NET.format("zz") + SHELF.format("k", "node")
                         + SHELF.format("a", "x(y)"))

    def test_there_and_back(self):
        chance = random.Random(611)
        for seed in range(20):
            bench = Bench()
            books = chance.sample([*ALL, *random_books(612 + seed, 6)], 4)
            bench.do(*[("put", name, book) for name, book in zip("dbca", books)])
            for name in "abcd":
                outcome(bench.do, ("shelve", name, name * 2))
            again = read_bench(text=bench.text())
            self.assertTrue(again == bench)
            self.assertEqual(again.text(), bench.text())
            self.assertEqual(state(again)[3:7], [(0, 0), [], [], False])
            self.assertEqual([again.net(name).changes for name in again.names()], [0] * 4)
            self.assertEqual((again.shelf(), repr(again)), (bench.shelf(), repr(bench)))
        bench = some_bench()
        self.assertTrue(read_bench(bench.text()) == bench)
        self.assertEqual([read_bench(bench.text()).net(name).label for name in bench.names()], ["", "", ""])

    def test_a_read_bench_goes_on(self):
        bench = read_bench(some_bench().text())
        self.assertEqual(outcome(bench.undo), raised("NothingLeft"))
        self.assertEqual(outcome(bench.do, ("shelve", "two", "square")), raised("Taken", name="square"))
        bench.do(("put", "wide", WIDE), ("clear", "square"), ("shelve", "wide", "new"))
        self.assertEqual(outcome(bench.do, ("shelve", "wide", "other")), raised("Known", name="new"))
        self.assertEqual(bench.say("known wide"), "new")
        self.assertEqual(len(bench.journal()), 3)
        bench.undo()
        self.assertTrue(bench == some_bench())
        self.assertEqual(bench.journal(), [])
        known = read_bench(SHELF.format("x", "node") + SHELF.format("y", "leaf"))
        known.do(("put", "one", BEADS))
        self.assertEqual(known.say("known one"), "x")
        self.assertEqual(outcome(known.do, ("shelve", "one", "z")), raised("Known", name="x"))

    def test_any_order(self):
        chance = random.Random(613)
        for seed in range(10):
            books = dict(zip(["b", "a", "zz", "abc"], chance.sample([*ALL, *random_books(614 + seed, 6)], 4)))
            shelf = chance.sample([("k", SQUARE), ("c", COMB), ("zzz", DIAMOND), ("b", SKEW)], 3)
            bench = Bench()
            bench.do(*[("put", name, book) for name, book in books.items()])
            bench.do(*[deed for label, book in shelf for deed in (("put", "qq", book), ("shelve", "qq", label), ("drop", "qq"))])
            text = "".join([f"book {name}\n{shuffled(chance, book)}" for name, book in books.items()]
                           + [f"shelf {label}\n{shuffled(chance, LeastBook(book).book)}" for label, book in shelf])
            self.assertTrue(read_bench(text) == bench)
            self.assertEqual(read_bench(text).text(), bench.text())
        self.assertEqual(read_bench("").text(), "")
        self.assertTrue(read_bench("") == Bench())

    def test_headings(self):
        for line in ("", " ", "book", "book ", "book  a", " book a", "book a ", "book a b", "book A", "book abcdefg", "book 1",
                     "Book a", "shelf", "shelf ", "shelf A", "shelf a b", "shelf abcdefg", "books a", "net 1", "place a node",
                     "end", "tie a a 1", "shelve a"):
            body = "net 1\nplace a node\ntie a a 1\nend\n"
            self.check(f"{line}\n{body}", 0, "form")
            self.check(f"{NET.format('x')}{line}\n{body}", 5, "form")
            self.check(f"{SHELF.format('x', 'node')}{line}\n", 5, "form")
        self.check(SHELF.format("x", "node") + NET.format("y"), 5, "form")
        self.check(NET.format("y") + SHELF.format("x", "node") + NET.format("y"), 10, "form")

    def test_double(self):
        self.check(NET.format("y") + NET.format("y"), 5, "double")
        self.check(NET.format("y") + NET.format("x") + "book y\nrubbish", 10, "double")
        self.check(SHELF.format("y", "node") + SHELF.format("y", "leaf"), 5, "double")
        self.check(NET.format("a") + SHELF.format("a", "node") + SHELF.format("a", "node"), 10, "double")
        self.assertEqual(len(read_bench(NET.format("a") + SHELF.format("a", "node")).shelf()), 1)
        self.assertEqual(outcome(read_bench, NET.format("a") + NET.format("b"))[0], "returned")
        self.check(NET.format("a") + NET.format("b").replace("tie a a 1\n", "tie a a 1\ntie a a -1\n"), 9, "double")

    def test_faults_within_books(self):
        for head, start in ((NET.format("x"), 5), ("", 0)):
            for word in ("book", "shelf"):
                for body, line, why in (("net 4\n", 1, "form"), ("net 1\nend\n", 2, "form"), ("net 1\nplace A node\n", 2, "form"),
                                        ("net 1\nplace a node\nplace a x\n", 3, "double"),
                                        ("net 1\nplace a node\ntie a b 1\n", 3, "unknown"),
                                        ("net 1\nplace a node\ntie a a 0\n", 3, "itself"),
                                        ("net 1\nplace a node\ntie a a\n", 3, "form"),
                                        ("net 1\nplace a node\nbook b\n", 3, "form"), ("book b\n", 1, "form")):
                    self.check(f"{head}{word} y\n{body}", start + line, why)
        many = "".join(f"place {one}{other} node\n" for one, other in itertools.product("abc", "abcdefghijklmnopqrstuvwxyz"))
        self.check(f"{NET.format('x')}book y\nnet 1\n{many}end\n", 5 + 66, "many")

    def test_missing(self):
        text = NET.format("x") + SHELF.format("y", "node")
        for at in range(1, len(text)):
            cut = text[:at]
            lines = cut.count("\n")
            if cut == NET.format("x"):
                self.assertEqual(outcome(read_bench, cut)[0], "returned")
            else:
                self.check(cut, lines, "missing" if cut.endswith("\n") else "form")
        self.check("book a\n", 1, "missing")
        self.check("shelf a\n", 1, "missing")

    def test_shelf(self):
        good = SHELF.format("x", "node")
        for book in (TWO_PIECES, LADDER, TREE, WIDE, BEADS):
            self.check(f"shelf a\n{book.text()}", 0, "shelf")
            self.check(f"{NET.format('n')}{good}shelf a\n{book.text()}", 10, "shelf")
            self.check(f"{good}shelf a\n{book.text()}shelf b\n{CUBE.text()}", 5, "shelf")
            # A wrong line comes ahead of a wrong shelf.
            self.check(f"shelf a\n{book.text()}shelf b\nnet 9\n", len(book) + len(book.ties()) + 4, "form")
            self.assertEqual(read_bench(f"book a\n{book.text()}").net("a").present, book)
        # A net may have the same key as a book of the shelf, but no two books of the shelf have.
        self.assertEqual(len(read_bench(NET.format("a") + good).shelf()), 1)
        self.check(good + SHELF.format("y", "node"), 5, "shelf")
        renamed = "shelf y\nnet 1\nplace q node\ntie q q 1\nend\n"
        self.check(SHELF.format("z", "leaf") + good + renamed, 10, "shelf")
        self.assertEqual(len(read_bench(SHELF.format("z", "leaf") + good + SHELF.format("y", "x(y)")).shelf()), 3)
        turned = Book(2, [("a", "node")], [("a", "a", (1, 0)), ("a", "a", (5, 1))])
        self.check(f"shelf a\n{SQUARE.text()}shelf b\n{HEXAGONAL.text()}shelf c\n{turned.text()}", 13, "shelf")

    def test_values_that_are_no_strings(self):
        for value in ANY_VALUES:
            if not isinstance(value, str):
                self.assertEqual(outcome(read_bench, value), raised("InvalidText", line=0, why="form"))
        for text in ("a", "\n", " ", "book a"):
            self.check(text, 0, "form")

    def test_kinds(self):
        for kind in READABLE[:12]:
            text = NET.format("a").replace("node", kind)
            self.assertEqual(read_bench(text).text(), text)


if __name__ == "__main__":
    unittest.main()
