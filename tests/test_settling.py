"""Peeled, folded, settled and restored books ([17] to [19])."""

import itertools
import random
import unittest

from endlessnets.books import Book
from endlessnets.classes import is_whole
from endlessnets.samenesses import verdict
from endlessnets.settling import folded, is_readable, peeled, restored, settled
from endlessnets.steadiness import clash, dead_ends, is_steady, loose, twins
from endlessnets.words import is_plain
from samples import CHAIN, COMB, CUBE, DIAMOND, FALLING, SKEW, SQUARE, TREE, TWINNED, WHOLE, plain
from samples import random_steady_books, random_whole_books
from test_motions import random_motion
from test_steadiness import HANGING, THREES
from tools import ANY_VALUES, falls_first, outcome, raised

READABLE = ["a", "node", "a(b)", "a(b,c)", "a(b)(c)", "[a,b]", "[a,b](c)", "[a,b](c)(d,e)", "[a(b),c]", "[[a,b],c]",
            "[a,[b,c],d](e([f,g]))(h)", "a([b,c](d))", "z(y(x(w)))", "[a,a]", "a(a,a)(a)", "b(a)", "[b,a]", "a" * 2000,
            "a(" * 600 + "b" + ")" * 600, "[a," * 400 + "b" + "]" * 400, "x" + "(y)" * 666]
UNREADABLE = ["", "(", ")", "[", "]", ",", "()", "[]", "[a]", "a()", "a(,)", "a(b,)", "a(,b)", "[a,]", "[,a]", "[,]",
              "(a)", "(a,b)", "a(b", "ab)", "[a,b", "a,b", "[a,b]]", "a(b))", "[a,b)", "a(b]", "[a,b](c]", "a[b,c]",
              "[a,b]c", "a(b)c", "a(b)[c,d]", "[a(b)c,d]", "a((b))", "[[a,b]]", "[a,,b]", "a(b,,c)", "[](a)", "[a](b)",
              "a,", ",a", "[a,b],c", "a(b),c", "([a,b])", "[(a),b]", "[a,b]()", "[a,b](,)", "[a,b]([c])", "a" * 2001,
              "[a,b][c,d]", "A", "a b", "a(B)", "a-b", "a(b1)", "a\n", "[a, b]", "a(" * 700 + "b" + ")" * 700, "{a}"]


def listed(kinds):
    return ",".join(sorted(kinds))


def dress(kind, hung):
    return f"{kind}({listed(hung)})" if hung else kind


def peeled_by_hand(book):
    hung = {name: [] for name in book.names()}
    present = book
    while dead_ends(present):
        ends = dead_ends(present)
        for name in ends:
            hung[present.leaving(name)[0][1]].append(dress(book.kind(name), hung[name]))
        for name in ends:
            present = present.without_place(name)
    for name in present.names():
        present = present.with_kind(name, dress(book.kind(name), hung[name]))
    return present


def folded_by_hand(book):
    present = book
    for spots in twins(book):
        names = [name for name, _ in spots]
        for name in names[1:]:
            present = present.without_place(name)
        present = present.with_kind(names[0], f"[{listed(book.kind(name) for name in names)}]")
    return present


def settled_by_hand(book):
    while dead_ends(book) or twins(book):
        book = peeled_by_hand(book) if dead_ends(book) else folded_by_hand(book)
    return book


def grown(chance, book, many):
    """A book with so many more places: dead ends, and copies of places with all their ties."""
    for name in ["u", "v", "w", "x", "y", "z"][:many]:
        old = chance.choice(book.names())
        vector = tuple(chance.randint(-3, 3) for _ in range(book.directions))
        ways = [tie for tie in book.leaving(old)]
        book = book.with_place(name, chance.choice(["node", "leaf", "bud"]))
        if chance.randint(0, 2) > 0 or any(tie[1] == old for tie in ways):
            book = book.with_tie((name, old, vector))
            continue
        for _, other, way in ways:
            book = book.with_tie((name, other, tuple(left + right for left, right in zip(way, vector))))
    return book


def random_grown(seed, count):
    chance = random.Random(seed)
    books = random_whole_books(chance.random(), count) + [SQUARE, COMB, DIAMOND, CHAIN, SKEW, CUBE]
    found = [grown(chance, book, chance.randint(1, 6)) for book in books]
    return [random_motion(chance, book.names(), book.directions).carry(book) for book in found]


class Parser:
    """Reads a kind as the document tells it; the position behind, or None for what is no readable kind."""

    def __init__(self, text):
        self.text = text

    def kind(self, at):
        behind = at
        while behind < len(self.text) and self.text[behind].isalpha():
            behind += 1
        if behind == at:
            behind = self.list_at(at, "[", "]", 2)
        while behind is not None and self.text[behind:behind + 1] == "(":
            behind = self.list_at(behind, "(", ")", 1)
        return behind

    def list_at(self, at, opening, closing, least):
        if self.text[at:at + 1] != opening:
            return None
        many = 0
        while many == 0 or self.text[at:at + 1] == ",":
            at = self.kind(at + 1)
            if at is None:
                return None
            many += 1
        return at + 1 if self.text[at:at + 1] == closing and many >= least else None


def counts(kind):
    """For a readable kind: its places, the places that stand for it to others, and the ties within it."""
    groups = []
    while kind.endswith(")"):
        at = next(at for at in range(len(kind)) if kind[at] == "(" and Parser(kind).list_at(at, "(", ")", 1) == len(kind)
                  and Parser(kind[:at]).kind(0) == at)
        groups.append(split(kind[at + 1:-1]))
        kind = kind[:at]
    base = [counts(item) for item in split(kind[1:-1])] if kind.startswith("[") else [(1, 1, 0)]
    places, fronts, ties = (sum(row[at] for row in base) for at in range(3))
    for item in itertools.chain(*groups):
        more, front, inner = counts(item)
        places, ties = places + more, ties + inner + fronts * front
    return (places, fronts, ties)


def split(text):
    found, at = [], 0
    while at <= len(text):
        behind = Parser(text).kind(at)
        found.append(text[at:behind])
        at = behind + 1
    return found


def restored_numbers(book):
    told = {name: counts(kind) for name, kind in book.places()}
    outer = sum(told[one][1] * told[other][1] for one, other, _ in book.ties())
    return (sum(row[0] for row in told.values()), outer + sum(row[2] for row in told.values()))


def random_kind(chance, depth):
    base = chance.choice(["a", "b", "node", "c"])
    if depth > 0 and chance.random() < 0.4:
        items = [random_kind(chance, depth - 1) for _ in range(chance.randint(2, 3))]
        base = "[" + ",".join(items) + "]"
    while depth > 0 and chance.random() < 0.3:
        items = [random_kind(chance, depth - 1) for _ in range(chance.randint(1, 2))]
        base = base + "(" + ",".join(items) + ")"
    return base


class SettledTest(unittest.TestCase):
    def test_peeled_and_folded(self):
        for book in WHOLE + [HANGING, THREES] + random_grown(351, 50):
            self.assertEqual(peeled(book=book), peeled_by_hand(book))
            self.assertEqual(folded(book=book), folded_by_hand(book))
            self.assertEqual(settled(book=book), settled_by_hand(book))
            self.assertIs(is_whole(settled(book)) and is_whole(folded(book)) and is_whole(peeled(book)), True)
            self.assertEqual(peeled(book) == book, not loose(book))
            self.assertEqual(folded(book) == book, not twins(book))

    def test_by_hand(self):
        self.assertEqual(peeled(TREE), Book(1, [("a", "node(bud,twig(leaf,leaf))")], [("a", "a", (1,))]))
        self.assertEqual(folded(TREE).places(), [("a", "node"), ("b", "twig"), ("c", "[leaf,leaf]"), ("e", "bud")])
        self.assertEqual(folded(TREE).ties(), [("a", "a", (1,)), ("a", "b", (0,)), ("a", "e", (-7,)), ("b", "c", (3,))])
        self.assertEqual(settled(TREE), peeled(TREE))
        self.assertEqual(folded(TWINNED), Book(1, [("a", "x"), ("b", "[x,y,z]")], [("a", "b", (0,)), ("b", "a", (1,))]))
        self.assertEqual(settled(TWINNED), folded(TWINNED))
        self.assertEqual(peeled(HANGING).places(), [("h", "node(node,node(node,node(node,node(node))))")])
        self.assertEqual(folded(THREES).places(), [("a", "[x,x,x]"), ("b", "x"), ("e", "[x,x]")])
        chain = Book(1, [("a", "node"), ("b", "leaf")], [("a", "a", (1,)), ("a", "b", (0,))])
        self.assertEqual((clash(chain), dead_ends(chain), settled(chain).places()),
                         ((("a", (0,)), ("b", (0,))), ["b"], [("a", "node(leaf)")]))

    def test_order_of_kinds(self):
        # Kinds are put in order, whatever the names of the places are; a bracket stands ahead of letters.
        told = Book(1, [("a", "n"), ("b", "z"), ("c", "y"), ("d", "b"), ("e", "ba"), ("f", "b"), ("g", "k"), ("h", "z")],
                    [("a", "a", (1,)), ("b", "a", (0,)), ("c", "a", (1,)), ("d", "a", (2,)), ("e", "a", (3,)),
                     ("f", "a", (4,)), ("g", "d", (5,)), ("h", "a", (1,))])
        self.assertEqual(peeled(told).places(), [("a", "n(b,b(k),ba,y,z,z)")])
        self.assertEqual(settled(told), peeled(told))
        names = Book(1, [("m", "x"), ("c", "a"), ("b", "c"), ("a", "b")],
                     [("m", name, (at,)) for name in "abc" for at in (0, 1)])
        self.assertEqual(settled(names).places(), [("a", "[a,b,c]"), ("m", "x")])

    def test_several_turns(self):
        # Twins of a twig make a dead end of it, and what is left has twins again.
        chain = plain(1, "ab", [("a", "b", (0,)), ("b", "a", (1,))])
        twigs = chain.with_place("c").with_place("d", "leaf").with_place("e", "bud")
        twigs = Book(1, twigs.places(), [*chain.ties(), ("c", "a", (0,)), ("c", "d", (0,)), ("c", "e", (0,)),
                                         ("d", "a", (0,))])
        self.assertEqual(settled(twigs), settled_by_hand(twigs))
        ring = plain(1, "abcd", [("a", "a", (1,)), ("a", "b", (0,)), ("a", "c", (0,)), ("b", "d", (0,)), ("c", "d", (0,))])
        self.assertEqual(settled(ring).places(), [("a", "node([node,node](node))")])
        later = Book(1, [(name, name * 2) for name in "abcdefgh"],
                     [("a", "a", (1,)), ("a", "b", (0,)), ("a", "c", (0,)), ("b", "d", (0,)), ("c", "d", (0,)),
                      ("a", "e", (2,)), ("a", "f", (2,)), ("e", "g", (0,)), ("f", "g", (0,)), ("g", "h", (1,))])
        self.assertEqual(settled(later).places(), [("a", "aa([bb,cc](dd),[ee,ff](gg(hh)))")])
        more = [len(book) - len(settled(book)) for book in random_grown(352, 60) if twins(peeled(book))]
        self.assertGreater(len(more), 5)

    def test_long_kinds(self):
        for size, fits in ((1994, True), (1995, False)):
            net = Book(1, [("a", "n" * size), ("b", "leaf")], [("a", "a", (1,)), ("a", "b", (0,))])
            for function in (peeled, settled):
                found = outcome(function, net)
                if fits:
                    self.assertEqual(found[1], Book(1, [("a", "n" * size + "(leaf)")], [("a", "a", (1,))]))
                else:
                    self.assertEqual(found, raised("TooMany", most=2000))
            self.assertEqual(outcome(folded, net), ("returned", net))
        for size, fits in ((1993, True), (1994, False)):
            net = Book(1, [("a", "n" * size), ("b", "leaf"), ("c", "x")],
                       [("a", "c", (0,)), ("a", "c", (1,)), ("b", "c", (0,)), ("b", "c", (1,))])
            wanted = f"[leaf,{'n' * size}]"
            for function in (folded, settled):
                found = outcome(function, net)
                if fits:
                    self.assertEqual((found[1].kind("a"), len(wanted)), (wanted, 2000))
                else:
                    self.assertEqual(found, raised("TooMany", most=2000))
            self.assertEqual(outcome(peeled, net), ("returned", net))
        for size, fits in ((993, True), (994, False)):
            twig = Book(1, [("a", "n"), ("b", "t"), ("c", "k" * size), ("d", "k" * 1000)],
                        [("a", "a", (1,)), ("a", "b", (0,)), ("b", "c", (0,)), ("b", "d", (0,))])
            kind = f"n(t({'k' * size},{'k' * 1000}))"
            self.assertEqual(len(kind) <= 2000, fits)
            if fits:
                self.assertEqual(settled(twig), Book(1, [("a", kind)], [("a", "a", (1,))]))
            else:
                self.assertEqual(outcome(settled, twig), raised("TooMany", most=2000))

    def test_first_of_all(self):
        for function in (peeled, folded, settled, restored):
            falls_first(self, function, falling=FALLING)
        far = Book(1, [("a", "n" * 2000), ("b", "k"), ("c", "n")], [("a", "b", (0,)), ("c", "c", (1,))])
        for function in (peeled, folded, settled):
            self.assertEqual(outcome(function, far), raised("Falls", many=None))
        odd = Book(1, [("a", "()")], [("a", "a", (2,))])
        self.assertEqual(outcome(restored, odd), raised("Falls", many=2))


class ReadableTest(unittest.TestCase):
    def test_by_hand(self):
        for kind in READABLE:
            self.assertIs(is_readable(kind), True, kind)
        for kind in UNREADABLE:
            self.assertIs(is_readable(value=kind), False, kind)
        for value in ANY_VALUES:
            self.assertIs(is_readable(value), value in ("a", "abcdefg"), value)

    def test_all_short_ones(self):
        for size in range(1, 7):
            for signs in itertools.product("a()[],", repeat=size):
                kind = "".join(signs)
                self.assertIs(is_readable(kind), Parser(kind).kind(0) == len(kind), kind)

    def test_random_ones(self):
        chance = random.Random(353)
        for _ in range(400):
            kind = random_kind(chance, 4)[:2000]
            self.assertIs(is_readable(kind), Parser(kind).kind(0) == len(kind), kind)
            for _ in range(6):
                at = chance.randint(0, len(kind))
                other = kind[:at] + chance.choice("a()[],") + kind[at + chance.randint(0, 1):]
                if len(other) <= 2000:
                    self.assertIs(is_readable(other), Parser(other).kind(0) == len(other), other)


class RestoredTest(unittest.TestCase):
    def test_groups_and_lists(self):
        found = restored(Book(1, [("a", "node(leaf)")], [("a", "a", (1,))]))
        new = next(name for name in found.names() if name != "a")
        self.assertEqual(found, Book(1, [("a", "node"), (new, "leaf")], [("a", "a", (1,)), ("a", new, (0,))]))
        found = restored(book=Book(1, [("a", "[x,y]"), ("b", "z")], [("a", "b", (2,)), ("b", "a", (-1,))]))
        new = next(name for name in found.names() if name not in "ab")
        self.assertEqual((found.kind("a"), found.kind(new)), ("x", "y"))
        self.assertEqual(found.ties(), sorted([("a", "b", (1,)), ("a", "b", (2,)), *Book(
            1, found.places(), [("b", new, (-2,)), ("b", new, (-1,))]).ties()]))
        self.assertEqual(twins(found), [sorted([("a", (0,)), (new, (0,))])])

    def test_loops_of_listed_places(self):
        found = restored(Book(2, [("a", "[x,y]")], [("a", "a", (1, 0)), ("a", "a", (0, 1))]))
        new = next(name for name in found.names() if name != "a")
        wanted = [(one, other, vector) for one in ("a", new) for other in ("a", new) for vector in ((1, 0), (0, 1))]
        self.assertEqual(found, Book(2, [("a", "x"), (new, "y")], wanted))
        self.assertEqual(settled(found).places(), [(min("a", new), "[x,y]")])
        found = restored(Book(1, [("a", "[[x,y],z](w)")], [("a", "a", (1,))]))
        self.assertEqual((len(found), len(found.ties())), (4, 9 + 3))
        self.assertEqual(sorted(kind for _, kind in found.places()), ["w", "x", "y", "z"])
        hung = next(name for name, kind in found.places() if kind == "w")
        self.assertEqual(found.degree(hung), 3)
        found = restored(Book(1, [("a", "[x(w),z]")], [("a", "a", (1,))]))
        hung = next(name for name, kind in found.places() if kind == "w")
        self.assertEqual((found.degree(hung), found.kind(found.leaving(hung)[0][1])), (1, "x"))

    def test_plain_books(self):
        for book in WHOLE:
            self.assertEqual(restored(book), book)

    def test_undone_by_settled(self):
        tried = 0
        for book in random_grown(354, 60):
            kept = settled(book)
            again = restored(kept)
            self.assertTrue(all(is_plain(kind) for _, kind in again.places()))
            self.assertEqual((len(again), len(again.ties())), (len(book), len(book.ties())))
            self.assertEqual(sorted(kind for _, kind in again.places()), sorted(kind for _, kind in book.places()))
            self.assertEqual(restored_numbers(kept), (len(book), len(book.ties())))
            back = settled(again)
            self.assertEqual(sorted(kind for _, kind in back.places()), sorted(kind for _, kind in kept.places()))
            if is_steady(kept):
                tried += 1
                self.assertEqual(verdict(back, kept)[0], "same")
        self.assertGreater(tried, 20)

    def test_settled_up_to_maps(self):
        chance = random.Random(355)
        for book in random_steady_books(356, 20):
            start = settled(book)
            one = grown(chance, start.in_one_kind(), 4)
            other = random_motion(chance, one.names(), one.directions).carry(one)
            if is_steady(settled(one)):
                self.assertEqual(verdict(settled(one), settled(other))[0], "same")

    def test_any_kinds(self):
        chance = random.Random(357)
        for book in random_whole_books(358, 80):
            told = Book(book.directions, [(name, random_kind(chance, 2)) for name in book.names()], book.ties())
            places, ties = restored_numbers(told)
            found = outcome(restored, told)
            if places > 64:
                self.assertEqual(found, raised("TooMany", most=64))
            elif ties > 400:
                self.assertEqual(found, raised("TooMany", most=400))
            else:
                self.assertEqual((len(found[1]), len(found[1].ties())), (places, ties))
                self.assertIs(is_whole(found[1]), True)

    def test_unreadable_kinds(self):
        self.assertEqual(outcome(restored, Book(1, [("a", "x"), ("c", "[x]"), ("b", "y()")],
                                                [("a", "b", (0,)), ("b", "c", (0,)), ("c", "a", (1,))])),
                         raised("InvalidKind", value="y()"))
        for kind in UNREADABLE:
            if 0 < len(kind) <= 2000 and all(sign in "abcdefghijklmnopqrstuvwxyz()[]," for sign in kind):
                self.assertEqual(outcome(restored, Book(1, [("a", kind), ("b", ",")], [("a", "b", (0,)), ("b", "a", (1,))])),
                                 raised("InvalidKind", value=kind))
        many = "[" + ",".join(["x"] * 65) + "]"
        self.assertEqual(outcome(restored, Book(1, [("a", many), ("b", "x(")], [("a", "b", (0,)), ("b", "a", (1,))])),
                         raised("InvalidKind", value="x("))

    def test_too_many_places(self):
        for many, fits in ((63, True), (64, False)):
            found = outcome(restored, Book(1, [("a", "node(" + ",".join(["x"] * many) + ")")], [("a", "a", (1,))]))
            if fits:
                self.assertEqual((len(found[1]), len(found[1].ties())), (64, 64))
            else:
                self.assertEqual(found, raised("TooMany", most=64))
        # 65 places would have more than 400 ties, too.
        listed_kind = "[" + ",".join(["x"] * 65) + "]"
        self.assertEqual(outcome(restored, Book(1, [("a", listed_kind)], [("a", "a", (1,))])), raised("TooMany", most=64))
        beside = Book(1, [("a", listed_kind[:-3] + "]"), ("b", "x")], [("a", "a", (1,)), ("a", "b", (0,))])
        self.assertEqual(outcome(restored, beside), raised("TooMany", most=64))
        two = Book(1, [("a", "x" + "(y)" * 31), ("b", "x" + "(y)" * 32)], [("a", "b", (1,)), ("a", "b", (0,))])
        self.assertEqual(outcome(restored, two), raised("TooMany", most=64))
        self.assertEqual(len(restored(two.with_kind("b", "x" + "(y)" * 31))), 64)

    def test_too_many_ties(self):
        twenty = "[" + ",".join(["x"] * 20) + "]"
        net = Book(1, [("a", twenty)], [("a", "a", (1,))])
        self.assertEqual((len(restored(net)), len(restored(net).ties())), (20, 400))
        self.assertEqual(outcome(restored, net.with_kind("a", twenty + "(y)")), raised("TooMany", most=400))
        self.assertEqual(outcome(restored, net.with_kind("a", twenty[:-1] + ",x]")), raised("TooMany", most=400))
        self.assertEqual(outcome(restored, net.with_kind("a", twenty[:-3] + ",x(y)]")), raised("TooMany", most=400))
        nested = Book(1, [("a", "[[x,x],[x,[x,x]]]"), ("b", twenty[:-1] + "," + twenty[1:])],
                      [("a", "b", (0,)), ("a", "b", (1,))])
        self.assertEqual(len(restored(nested).ties()), 400)
        self.assertEqual(outcome(restored, nested.with_tie(("b", "a", (9,)))), raised("TooMany", most=400))
        wide = Book(1, [("a", "[" + ",".join(["x"] * 64) + "]")], [("a", "a", (1,)), ("a", "a", (2,))])
        self.assertEqual(outcome(restored, wide), raised("TooMany", most=400))


if __name__ == "__main__":
    unittest.main()
