"""The texts of books ([7])."""

import itertools
import random
import unittest

from endlessnets.books import Book
from samples import ALL, COMB, SLANTED, random_books, turned_by_hand
from test_books import NAMES, loops, places
from tools import ANY_VALUES, outcome, raised

BIG = "9" * 40
HEAD = "net 1\nplace a node\nplace b node\n"


class TextTest(unittest.TestCase):
    def check(self, text, line, why):
        self.assertEqual(outcome(Book.read, text), raised("InvalidText", line=line, why=why), text[-60:])

    def test_written(self):
        self.assertEqual(COMB.text(), "net 2\nplace a node\nplace b node\ntie a b 0 0\ntie a b 0 1\ntie a b 1 0\nend\n")
        book = Book(3, [("z", "x(y,[a,b])")], [("z", "z", (-int(BIG), 0, 5))])
        self.assertEqual(book.text(), f"net 3\nplace z x(y,[a,b])\ntie z z {BIG} 0 -5\nend\n")
        self.assertEqual(Book(1, [("b", "q"), ("a", "p")]).text(), "net 1\nplace a p\nplace b q\nend\n")
        large = Book(1, [("a", "node")], [("a", "a", (10 ** 3999,))])
        self.assertEqual(large.text(), "net 1\nplace a node\ntie a a 1" + "0" * 3999 + "\nend\n")

    def test_there_and_back(self):
        for book in ALL + random_books(41):
            self.assertEqual(str(book), book.text())
            self.assertEqual(Book.read(book.text()), book)
            self.assertEqual(Book.read(text=str(book)).text(), book.text())

    def test_any_order_and_either_end(self):
        chance = random.Random(42)
        for book in random_books(43):
            told = [f"place {name} {kind}\n" for name, kind in book.places()]
            ties = [chance.choice([tie, turned_by_hand(tie)]) for tie in book.ties()]
            rows = [" ".join(["tie", tie[0], tie[1], *map(str, tie[2])]) + "\n" for tie in ties]
            chance.shuffle(told)
            chance.shuffle(rows)
            text = "".join([f"net {book.directions}\n", *told, *rows, "end\n"])
            self.assertEqual(Book.read(text), book)

    def test_form_of_the_first_line(self):
        for line in ("", "net", "net ", "net 0", "net 4", "net 01", "net +1", "net 1 ", " net 1", "net  1", "net one",
                     "net 1 1", "Net 1", "place a node", "tie a a 1", "end", "net -1", "net 12"):
            self.check(f"{line}\nplace a node\nend\n", 0, "form")

    def test_form_of_a_place(self):
        for line in ("", "place", "place a", "place a ", "place  a node", "place a  node", "place a node ",
                     " place a node", "place abcdefg node", "place A node", "place a Node", "place a node x",
                     "place a " + "q" * 2001, "places a node", "place a1 node", "net 1", "place a no_de"):
            self.check(f"net 1\n{line}\nend\n", 1, "form")
            self.check(f"net 1\nplace b node\n{line}\nend\n", 2, "form")
        self.check("net 1\nend\n", 1, "form")
        self.check("net 1\ntie a a 1\nend\n", 1, "form")
        self.check("net 1\nplace a node\ntie a a 1\nplace b node\nend\n", 3, "form")
        self.assertEqual(Book.read("net 1\nplace a " + "q" * 2000 + "\nend\n").kind("a"), "q" * 2000)

    def test_form_of_a_tie(self):
        for line in ("", "tie", "tie a", "tie a b", "tie a b ", "tie a b 1 2", "tie a b  1", "tie  a b 1", "tie a b 1 ",
                     " tie a b 1", "tie a b +1", "tie a b -0", "tie a b 01", "tie a b -01", "tie a b 00", "tie a b --1",
                     "tie a b -", "tie a b 1-", "tie a b x", "tie a b 1.0", "tie a b 1_0", "tie a b 0x1", "tie A b 1",
                     "tie a abcdefg 1", "tie a  1", "ties a b 1", "tie a b " + "9" * 41, "tie a b -" + "9" * 41,
                     "net 1", "end ", " end", "END", "end end"):
            self.check(f"{HEAD}{line}\nend\n", 3, "form")
            self.check(f"{HEAD}tie b b 7\n{line}\nend\n", 4, "form")
        for number in ("0", "1", "-1", "10", BIG, "-" + BIG):
            self.assertEqual(Book.read(f"{HEAD}tie a b {number}\nend\n").ties(), [("a", "b", (int(number),))])
        self.check("net 2\nplace a node\ntie a a 1\nend\n", 2, "form")
        self.check("net 3\nplace a node\ntie a a 1 2 3 4\nend\n", 2, "form")

    def test_form_behind_the_end(self):
        for rest in ("\n", "end\n", " ", "x", "place c node\n", "\n\n", "net 1\n"):
            self.check(f"{HEAD}end\n{rest}", 4, "form")

    def test_a_line_without_its_line_feed(self):
        text = HEAD + "tie a b 1\nend\n"
        for at in range(len(text)):
            cut = text[:at]
            lines = cut.count("\n")
            self.check(cut, lines, "missing" if cut == "" or cut.endswith("\n") else "form")

    def test_missing(self):
        self.check("", 0, "missing")
        self.check("net 1\n", 1, "missing")
        self.check(HEAD, 3, "missing")
        self.check(HEAD + "tie a b 1\n", 4, "missing")

    def test_many(self):
        rows = [f"place {name} {kind}\n" for name, kind in places(66)]
        self.check("net 1\n" + "".join(rows[:65]) + "end\n", 65, "many")
        self.check("net 1\n" + "".join(rows[:64]) + rows[0], 65, "many")
        self.check("net 1\n" + "".join(rows[:64]) + "place A x\n", 65, "form")
        self.assertEqual(Book.read("net 1\n" + "".join(rows[:64]) + "end\n").names(), NAMES[:64])
        ties = [f"tie a a {tie[2][0]}\n" for tie in loops(402)]
        full = HEAD + "".join(ties[:400])
        self.assertEqual(len(Book.read(full + "end\n").ties()), 400)
        for line, why in ((ties[400], "many"), (ties[0], "many"), ("tie x y 0\n", "many"), ("tie a a 0\n", "many"),
                          ("tie a a 00\n", "form")):
            self.check(full + line + "end\n", 403, why)

    def test_double(self):
        self.check("net 1\nplace a node\nplace b x\nplace a leaf\nend\n", 3, "double")
        for line in ("tie a b 2", "tie b a -2", "tie a a -3", "tie a a 3"):
            self.check(f"{HEAD}tie a b 2\ntie a a 3\n{line}\nend\n", 5, "double")

    def test_unknown_and_itself(self):
        for line in ("tie a c 0", "tie c a 0", "tie c c 0", "tie x y 1"):
            self.check(f"{HEAD}{line}\nend\n", 3, "unknown")
        self.check(f"{HEAD}tie b b 0\nend\n", 3, "itself")
        self.check("net 3\nplace a x\ntie a a 0 0 0\nend\n", 2, "itself")

    def test_the_first_wrong_line_counts(self):
        faults = {"double": "tie b a -2\n", "unknown": "tie a q 1\n", "itself": "tie a a 0\n", "form": "tie a\n"}
        for one, other in itertools.permutations(faults, 2):
            self.check(HEAD + "tie a b 2\n" + faults[one] + faults[other], 4, one)

    def test_values_that_are_no_strings(self):
        for value in ANY_VALUES:
            if not isinstance(value, str):
                self.assertEqual(outcome(Book.read, value), raised("InvalidText", line=0, why="form"))
        for text in ("a", "\n", " "):
            self.check(text, 0, "form")

    def test_the_example(self):
        self.check("net 1\nplace a node\nplace b node\ntie a b 0\ntie b a 0\nend\n", 4, "double")

    def test_read_off_an_object(self):
        self.assertEqual(COMB.read(SLANTED.text()), SLANTED)


if __name__ == "__main__":
    unittest.main()
