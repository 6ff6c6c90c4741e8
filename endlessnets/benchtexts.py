"""The texts of benches."""

from endlessnets.bench import bench_with
from endlessnets.books import Book
from endlessnets.booktexts import read_book_lines, words_at
from endlessnets.classes import is_whole
from endlessnets.errors import InvalidText
from endlessnets.holdings import Holding
from endlessnets.keys import key
from endlessnets.leastbooks import is_least
from endlessnets.steadiness import is_steady
from endlessnets.words import is_name


def heading_fault(words, books, shelved):
    """What is wrong with the line ahead of a book, behind nets and books of the shelf; None if nothing is."""
    if len(words) != 2 or words[0] not in ("book", "shelf") or not is_name(words[1]):
        return "form"
    if words[0] == "book" and shelved:
        return "form"
    used = books if words[0] == "book" else shelved
    return "double" if words[1] in used else None


def read_lines(lines):
    """The books of nets by their names, and the pairs of a line and a book of the shelf by their labels."""
    books = {}
    shelved = {}
    at = 0
    while at < len(lines) - 1 or lines[at]:
        words = words_at(lines, at)
        fault = heading_fault(words, books, shelved)
        if fault is not None:
            raise InvalidText(at, fault)
        directions, places, ties, behind = read_book_lines(lines, at + 1)
        book = Book(directions, places, ties)
        if words[0] == "book":
            books[words[1]] = book
        else:
            shelved[words[1]] = (at, book)
        at = behind
    return (books, shelved)


def is_for_shelf(book):
    """Whether a book is steady and least."""
    return is_whole(book) and is_steady(book) and is_least(book)


def write_bench(bench):
    """The text of a bench."""
    return bench.text()


def read_bench(text):
    """The bench with a text."""
    if not isinstance(text, str):
        raise InvalidText(0, "form")
    books, shelved = read_lines(text.split("\n"))
    holding = Holding()
    for name, book in books.items():
        holding.hold(name, book, 0)
    for label, (at, book) in shelved.items():
        if not is_for_shelf(book):
            raise InvalidText(at, "shelf")
        told = key(book)
        if holding.label_of(told) is not None:
            raise InvalidText(at, "shelf")
        holding.shelve(label, book, told)
    return bench_with(holding)
