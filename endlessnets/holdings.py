"""What a bench holds between two steps: nets, and books on a shelf."""

from endlessnets.errors import UnknownName


def is_held(books, name):
    """Whether any value is a name in a dict from names to books."""
    return isinstance(name, str) and name in books


def check_held(books, name):
    """Raises the error for any value that is no name in a dict from names to books."""
    if not is_held(books, name):
        raise UnknownName(name)


class Holding:
    """The books of nets with the numbers of their changes, and the books on the shelf with their keys."""

    def __init__(self):
        self.books = {}
        self.counts = {}
        self.shelved = {}
        self.shelf_keys = {}

    def copied(self):
        """A holding of the same, which can be changed."""
        found = Holding()
        found.books = dict(self.books)
        found.counts = dict(self.counts)
        found.shelved = dict(self.shelved)
        found.shelf_keys = dict(self.shelf_keys)
        return found

    def hold(self, name, book, changes):
        """Holds a book with a number of changes under a name."""
        self.books[name] = book
        self.counts[name] = changes

    def drop(self, name):
        """Holds nothing under a name any longer."""
        del self.books[name]
        del self.counts[name]

    def shelve(self, label, book, told):
        """Puts a book with its key behind the others on the shelf."""
        self.shelved[label] = book
        self.shelf_keys[label] = told

    def unshelve(self, label):
        """Takes a book off the shelf."""
        del self.shelved[label]
        del self.shelf_keys[label]

    def net_names(self):
        """The ascending list of the names of the nets."""
        return sorted(self.books)

    def shelf_pairs(self):
        """The pairs of a label and a book on the shelf, in order."""
        return list(self.shelved.items())

    def label_of(self, found):
        """The label of the book with a key on the shelf, None if there is none."""
        for label in self.shelf_keys:
            if self.shelf_keys[label] == found:
                return label
        return None

    def written(self):
        """The text of the nets and of the shelf."""
        nets = [f"book {name}\n{self.books[name].text()}" for name in self.net_names()]
        shelf = [f"shelf {label}\n{book.text()}" for label, book in self.shelved.items()]
        return "".join([*nets, *shelf])

    def __eq__(self, other):
        return (isinstance(other, Holding) and self.books == other.books
                and list(self.shelved.items()) == list(other.shelved.items()))
