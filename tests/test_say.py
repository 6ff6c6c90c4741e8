"""Lines that a bench answers ([44])."""

import unittest

from endlessnets.bench import Bench
from endlessnets.classes import pieces
from endlessnets.colours import colouring
from endlessnets.leastbooks import LeastBook
from endlessnets.settling import settled
from endlessnets.turns import is_handed, turns
from samples import BEADS, BOTH, CHAIN, COMB, CUBE, DOTS, HEXAGONAL, LADDER, LINES, LONELY, SKEW, SQUARE, TREE, TWINNED
from samples import TWO_PIECES, WIDE
from test_nets import HUNG, LENGTHY
from test_turns import SCREW
from tools import gives_new

BOOKS = {"one": COMB, "two": WIDE, "square": SQUARE, "cube": CUBE, "hex": HEXAGONAL, "tree": TREE, "twin": TWINNED,
         "beads": BEADS, "chain": CHAIN, "skew": SKEW, "screw": SCREW}
WRONG = {"falls": (TWO_PIECES, "Falls"), "lines": (LINES, "Falls"), "both": (BOTH, "Falls"), "dots": (DOTS, "Falls"),
         "bare": (LONELY[2], "Falls"), "long": (LENGTHY, "TooMany"), "ladder": (LADDER, "Unsteady"),
         "hung": (HUNG, "Unsteady")}
ONE_NAME = ["places", "ties", "pieces", "steady", "turns", "handed", "known", "colours"]
# Words that are no names of nets, though some of them are names of other things.
NOBODY = ["nobody", "x", "label", "One", "ONE", "one,", "(one)", "abcdefghij", "1", "-", "one\\", "'one'", "nets", "undo"]


def full_bench():
    bench = Bench()
    bench.do(*[("put", name, book) for name, book in BOOKS.items()])
    bench.do(*[("put", name, book) for name, (book, _) in WRONG.items()])
    bench.do(("shelve", "two", "label"), ("shelve", "twin", "other"))
    return bench


class SayCase(unittest.TestCase):
    def setUp(self):
        self.bench = full_bench()
        self.lines = []

    def answers(self, line, answer):
        ask = self.bench.say if len(self.lines) % 2 else self.bench
        self.assertEqual(ask(line), answer, line)
        self.lines.append((line, answer))
        self.assertEqual(self.bench.log(), self.lines)


class AnswerTest(SayCase):
    def test_nets(self):
        self.answers("nets", " ".join(sorted([*BOOKS, *WRONG])))
        self.assertEqual(Bench().say("nets"), "none")
        self.assertEqual(Bench().say(line="nets"), "none")
        self.assertEqual(Bench()(line="nets"), "none")

    def test_numbers(self):
        for name, book in {**BOOKS, **{name: book for name, (book, _) in WRONG.items()}}.items():
            self.answers(f"places {name}", str(len(book)))
            self.answers(f"ties {name}", str(len(book.ties())))
            many = pieces(book)
            self.answers(f"pieces {name}", "endless" if many is None else str(many))
        self.answers("pieces both", "7")
        self.answers("pieces lines", "endless")
        self.answers("ties bare", "0")

    def test_steady(self):
        for name in BOOKS:
            self.answers(f"steady {name}", "no" if name in ("tree", "twin") else "yes")
        for name in WRONG:
            self.answers(f"steady {name}", "no")

    def test_turns_and_handed(self):
        for name, book in BOOKS.items():
            least = LeastBook(settled(book)).book
            self.answers(f"turns {name}", str(len(turns(least))))
            self.answers(f"handed {name}", "yes" if is_handed(least) else "no")
        for line, answer in (("turns square", "8"), ("turns two", "8"), ("turns hex", "12"), ("turns cube", "48"),
                             ("turns tree", "2"), ("handed square", "no"), ("handed skew", "yes"), ("handed screw", "yes")):
            self.answers(line, answer)

    def test_same(self):
        alike = [("two", "square"), ("beads", "chain")]
        for one in BOOKS:
            for other in BOOKS:
                same = one == other or (one, other) in alike or (other, one) in alike
                self.answers(f"same {one} {other}", "yes" if same else "no")
        self.bench.do(("paint", "square", "a", "other"))
        self.answers("same two square", "no")

    def test_known(self):
        labels = {"two": "label", "square": "label", "twin": "other"}
        for name in BOOKS:
            self.answers(f"known {name}", labels.get(name, "none"))
        self.bench.do(("clear", "label"), ("shelve", "square", "new"))
        self.answers("known two", "new")
        self.bench.do(("clear", "new"))
        self.answers("known two", "none")
        self.answers("known twin", "other")

    def test_colours(self):
        for name, book in BOOKS.items():
            self.answers(f"colours {name}", "odd" if colouring(book) is None else "two")
        for name in ("ladder", "hung", "long"):
            self.answers(f"colours {name}", "two")
        self.answers("colours hex", "odd")

    def test_undo_and_redo(self):
        bench = self.bench
        self.assertEqual(bench.history(), (3, 0))
        for line, answer, history in (("undo", "done", (2, 1)), ("undo", "done", (1, 2)), ("redo", "done", (2, 1)),
                                      ("redo", "done", (3, 0)), ("redo", "error NothingLeft", (3, 0)),
                                      ("undo", "done", (2, 1)), ("undo", "done", (1, 2)), ("undo", "done", (0, 3)),
                                      ("undo", "error NothingLeft", (0, 3)), ("nets", "none", (0, 3))):
            self.answers(line, answer)
            self.assertEqual(bench.history(), history)


class ErrorTest(SayCase):
    def test_unknown_names(self):
        for name in NOBODY:
            for word in ONE_NAME:
                self.answers(f"{word} {name}", "error UnknownName")
            for line in (f"same {name} one", f"same one {name}", f"same falls {name}", f"same {name} long",
                         f"same {name} {name}"):
                self.answers(line, "error UnknownName")

    def test_books_that_do_not_fit(self):
        for name, (_, code) in WRONG.items():
            for word in ("turns", "handed", "known"):
                self.answers(f"{word} {name}", f"error {code}")
            self.answers(f"same {name} one", f"error {code}")
            self.answers(f"same one {name}", f"error {code}")
            for other, (_, _) in WRONG.items():
                self.answers(f"same {name} {other}", f"error {code}")
            self.answers(f"colours {name}", "error Falls" if code == "Falls" else "two")

    def test_other_lines(self):
        self.bench.undo()
        before = (self.bench.text(), self.bench.history())
        lines = ["", " ", "  ", "\n", "hello", "Nets", "NETS", "nets ", " nets", "nets one", "nets nets", "nets\n", "\nnets",
                 "undo one", "undo ", " undo", "Undo", "undo undo", "redo redo", "undo\n", "redo\n", "same", "same one",
                 "same one two one", "same  one two", "same one  two", "same one two ", "same one\ntwo one", "same one two\n",
                 "error", "unknown", "rest one", "rest", "put one", "drop one", "clear label", "shelf", "log", "help", "one",
                 "turns  one", "net one", "names", "colour one", "colors one", "place one", "tie one", "piece one"]
        for word in ONE_NAME:
            lines += [word, f"{word} ", f" {word} one", f"{word}  one", f"{word} one ", f"{word} one two", f"{word} nobody x",
                      f"{word.upper()} one", f"{word.title()} one", f"{word} one\n", f"{word}\none", f"{word}one",
                      f"{word} \n", f"{word},one", f"{word} nobody\n"]
        for line in lines:
            self.answers(line, "unknown")
        self.assertEqual((self.bench.text(), self.bench.history()), before)

    def test_the_log(self):
        self.answers("nets", self.bench.twin().say("nets"))
        twin = self.bench.twin()
        twin.say("hello")
        self.assertEqual(twin.log(), [*self.lines, ("hello", "unknown")])
        self.assertEqual(self.bench.log(), self.lines)
        self.bench.undo()
        self.assertEqual(self.bench.log(), self.lines)
        gives_new(self, self.bench.log)


if __name__ == "__main__":
    unittest.main()
