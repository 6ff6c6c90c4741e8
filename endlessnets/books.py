"""Books: places and ties of which a net is made by endlessly many shifted copies."""

from endlessnets.booktexts import read_book_lines
from endlessnets.bounds import MOST_DIRECTIONS, MOST_PLACES, MOST_TIES
from endlessnets.errors import DuplicateName, InvalidDirections, InvalidKind, InvalidName, InvalidPlace, InvalidText
from endlessnets.errors import InvalidTie, Itself, TooMany, TwiceTold, UnknownName, UnknownTie
from endlessnets.vectors import is_vector, vector_times, zero
from endlessnets.words import is_kind, is_name, is_number


def turned(tie):
    """A tie, told from its other end."""
    one, other, vector = tie
    return (other, one, vector_times(vector, -1))


def standard(tie):
    """The standard form of a tie."""
    one, other, vector = tie
    if one == other:
        return tie if vector > zero(len(vector)) else turned(tie)
    return tie if one < other else turned(tie)


def is_place(value):
    """Whether any value is a pair of a name and a kind."""
    return isinstance(value, tuple) and len(value) == 2 and is_name(value[0]) and is_kind(value[1])


def is_told_tie(value, directions):
    """Whether any value is a tuple of two names and a vector."""
    if not isinstance(value, tuple) or len(value) != 3:
        return False
    return is_name(value[0]) and is_name(value[1]) and is_vector(value[2], directions)


def checked_kinds(places):
    """The kinds of a list of places by their names, ascending."""
    if not isinstance(places, (list, tuple)) or not places:
        raise InvalidPlace(-1)
    if len(places) > MOST_PLACES:
        raise TooMany(MOST_PLACES)
    for at, place in enumerate(places):
        if not is_place(place):
            raise InvalidPlace(at)
    kinds = {}
    for name, kind in places:
        if name in kinds:
            raise DuplicateName(name)
        kinds[name] = kind
    return {name: kinds[name] for name in sorted(kinds)}


def check_tie(tie, at, directions, kinds):
    """Raises the error for a value that can be no tie at an index."""
    if not is_told_tie(tie, directions):
        raise InvalidTie(at)
    one, other, vector = tie
    for name in (one, other):
        if name not in kinds:
            raise UnknownName(name)
    if one == other and vector == zero(directions):
        raise Itself(one)


def checked_ties(ties, directions, kinds):
    """The ascending list of the standard forms of a list of ties."""
    if not isinstance(ties, (list, tuple)):
        raise InvalidTie(-1)
    if len(ties) > MOST_TIES:
        raise TooMany(MOST_TIES)
    told = {}
    for at, tie in enumerate(ties):
        check_tie(tie, at, directions, kinds)
        form = standard(tie)
        if form in told:
            raise TwiceTold(form)
        told[form] = True
    return sorted(told)


def ways_from(kinds, ties):
    """The ascending lists of the directed ties that lead from the places, by their names."""
    found = {name: [] for name in kinds}
    for tie in ties:
        found[tie[0]].append(tie)
        found[tie[1]].append(turned(tie))
    return {name: sorted(found[name]) for name in found}


def tie_line(tie):
    """The line of a tie in the text of a book."""
    one, other, vector = tie
    numbers = " ".join([str(number) for number in vector])
    return f"tie {one} {other} {numbers}\n"


class Book:
    """A number of directions, places with kinds, and ties."""

    def __init__(self, directions, places, ties=()):
        if not is_number(directions, 1, MOST_DIRECTIONS):
            raise InvalidDirections(directions)
        kinds = checked_kinds(places)
        forms = checked_ties(ties, directions, kinds)
        self.directions = directions
        self._kinds = kinds
        self._ties = forms
        self._leaving = ways_from(kinds, forms)

    def places(self):
        """The ascending list of the places."""
        return list(self._kinds.items())

    def names(self):
        """The ascending list of the names of the places."""
        return list(self._kinds)

    def ties(self):
        """The ascending list of the ties in standard form."""
        return list(self._ties)

    def kind(self, name):
        """The kind of a place."""
        self._check_name(name)
        return self._kinds[name]

    def degree(self, name):
        """The number of the neighbours of each spot of a place."""
        self._check_name(name)
        return len(self._leaving[name])

    def leaving(self, name):
        """The ascending list of the directed ties that lead from a place."""
        self._check_name(name)
        return list(self._leaving[name])

    def has_tie(self, value):
        """Whether any value is a directed tie of the book."""
        return is_told_tie(value, self.directions) and value in self._leaving.get(value[0], [])

    def with_tie(self, tie):
        """The book with one more tie."""
        return Book(self.directions, self.places(), [*self._ties, tie])

    def without(self, *ties):
        """The book without ties, told from either end."""
        for tie in ties:
            if not self.has_tie(tie):
                raise UnknownTie(tie)
        gone = {standard(tie): True for tie in ties}
        return Book(self.directions, self.places(), [tie for tie in self._ties if tie not in gone])

    def with_place(self, name, kind="node"):
        """The book with one more place."""
        if not is_name(name):
            raise InvalidName(name)
        if not is_kind(kind):
            raise InvalidKind(kind)
        return Book(self.directions, [*self.places(), (name, kind)], self._ties)

    def without_place(self, name):
        """The book without a place and its ties."""
        self._check_name(name)
        places = [place for place in self.places() if place[0] != name]
        return Book(self.directions, places, [tie for tie in self._ties if name not in (tie[0], tie[1])])

    def with_kind(self, name, kind):
        """The book with another kind for a place."""
        self._check_name(name)
        if not is_kind(kind):
            raise InvalidKind(kind)
        places = [(place, kind if place == name else old) for place, old in self._kinds.items()]
        return Book(self.directions, places, self._ties)

    def in_one_kind(self, kind="node"):
        """The book with one kind for all places."""
        if not is_kind(kind):
            raise InvalidKind(kind)
        return Book(self.directions, [(name, kind) for name in self._kinds], self._ties)

    def text(self):
        """The text of the book."""
        return "".join(self._lines())

    @staticmethod
    def read(text):
        """The book with a text."""
        if not isinstance(text, str):
            raise InvalidText(0, "form")
        lines = text.split("\n")
        directions, places, ties, behind = read_book_lines(lines, 0)
        if lines[behind:] != [""]:
            raise InvalidText(behind, "form")
        return Book(directions, places, ties)

    def __str__(self):
        return "".join(self._lines())

    def __contains__(self, name):
        return isinstance(name, str) and name in self._kinds

    def __eq__(self, other):
        return (isinstance(other, Book) and self.directions == other.directions
                and self._kinds == other._kinds and self._ties == other._ties)

    def __len__(self):
        return len(self._kinds)

    def __bool__(self):
        return True

    def __repr__(self):
        return f"Book({len(self._kinds)} places, {len(self._ties)} ties)"

    def _check_name(self, name):
        if name not in self:
            raise UnknownName(name)

    def _lines(self):
        places = [f"place {name} {kind}\n" for name, kind in self._kinds.items()]
        return [f"net {self.directions}\n", *places, *[tie_line(tie) for tie in self._ties], "end\n"]
