"""Net objects: books that are changed, with a label."""

from endlessnets.books import Book
from endlessnets.classes import is_whole
from endlessnets.coarsebooks import CoarseBook
from endlessnets.errors import InvalidBook, InvalidName, Misfit
from endlessnets.keys import settled_key
from endlessnets.leastbooks import LeastBook
from endlessnets.motions import Motion
from endlessnets.resting import rest
from endlessnets.settling import settled
from endlessnets.steadiness import is_steady
from endlessnets.turns import turns
from endlessnets.words import is_name


def check_label(value):
    """Raises the error for any value that is neither a name nor the empty string."""
    if not is_name(value) and value != "":
        raise InvalidName(value)


def turns_of_settled(book):
    """The turns of the least book of the settled book."""
    return turns(LeastBook(settled(book)).book)


def net_with(book, changes):
    """A net object with a book and a number of changes."""
    net = Net(book)
    net._changes = changes
    return net


class Net:
    """A book that is changed, with a label and the number of its changes."""

    def __init__(self, book, *, label=""):
        if not isinstance(book, Book):
            raise InvalidBook()
        check_label(label)
        self._book = book
        self._label = label
        self._changes = 0

    @property
    def present(self):
        """The present book."""
        return self._book

    @property
    def label(self):
        """The label, a name or the empty string."""
        return self._label

    @label.setter
    def label(self, value):
        check_label(value)
        self._label = value

    @property
    def changes(self):
        """The number of changes so far."""
        return self._changes

    def is_whole(self):
        """Whether the present book is whole."""
        return is_whole(self._book)

    def is_steady(self):
        """Whether the present book is whole and steady."""
        return is_whole(self._book) and is_steady(self._book)

    def relabel(self, label):
        """Assigns the label."""
        check_label(label)
        self._label = label

    def add_tie(self, tie):
        """Adds a tie."""
        self._change(self._book.with_tie(tie))

    def strike(self, tie):
        """Takes a tie away, told from either end."""
        self._change(self._book.without(tie))

    def add_place(self, name, kind="node"):
        """Adds a place."""
        self._change(self._book.with_place(name, kind))

    def remove_place(self, name):
        """Takes a place away with its ties."""
        self._change(self._book.without_place(name))

    def paint(self, name, kind):
        """Gives a place another kind."""
        self._change(self._book.with_kind(name, kind))

    def retell(self, motion):
        """Carries the book by a motion."""
        if not isinstance(motion, Motion):
            raise Misfit()
        self._change(motion.carry(self._book))

    def coarsen(self, lattice):
        """Tells the net with the shifts of a lattice alone."""
        self._change(CoarseBook(self._book, lattice).book)

    def reduce(self):
        """Tells the net in its fine lattice."""
        self._change(LeastBook(self._book).book)

    def settle(self):
        """Takes dead ends and twins away."""
        self._change(settled(self._book))

    def rest(self):
        """The rest of the present book."""
        return rest(self._book)

    def key(self):
        """The key of the settled book."""
        return settled_key(self._book)

    def turns(self):
        """The turns of the least book of the settled book."""
        return turns_of_settled(self._book)

    def twin(self):
        """An independent net object with the same book, label and number of changes."""
        net = net_with(self._book, self._changes)
        net._label = self._label
        return net

    def __len__(self):
        return len(self._book)

    def __bool__(self):
        return True

    def __repr__(self):
        return f"Net({len(self._book)} places, {len(self._book.ties())} ties)"

    def _change(self, book):
        self._book = book
        self._changes = self._changes + 1
