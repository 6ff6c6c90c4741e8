"""The errors of the package; each has the name of its class as its code."""


class NetError(ValueError):
    """A value is wrong; the base class of most errors here."""


class InvalidNumber(NetError):
    """A value is no number of the size that is asked for."""

    def __init__(self, value):
        NetError.__init__(self, "not a right number")
        self.value = value
        self.code = "InvalidNumber"


class InvalidFraction(NetError):
    """A fraction cannot stand where it was passed."""

    def __init__(self, value):
        NetError.__init__(self, "not a right fraction")
        self.value = value
        self.code = "InvalidFraction"


class InvalidDirections(NetError):
    """A value is no right number of directions."""

    def __init__(self, value):
        NetError.__init__(self, "not a right number of directions")
        self.value = value
        self.code = "InvalidDirections"


class InvalidVector(NetError):
    """A value at an index is no right vector or point."""

    def __init__(self, at):
        NetError.__init__(self, "not a right vector or point")
        self.at = at
        self.code = "InvalidVector"


class InvalidMatrix(NetError):
    """A value is no right matrix or table."""

    def __init__(self):
        NetError.__init__(self, "not a right matrix or table")
        self.code = "InvalidMatrix"


class Singular(NetError):
    """A table has the determinant 0."""

    def __init__(self):
        NetError.__init__(self, "the determinant is 0")
        self.code = "Singular"


class InvalidName(NetError):
    """A value is no right name."""

    def __init__(self, value):
        NetError.__init__(self, "not a right name")
        self.value = value
        self.code = "InvalidName"


class InvalidKind(NetError):
    """A value is no right kind."""

    def __init__(self, value):
        NetError.__init__(self, "not a right kind")
        self.value = value
        self.code = "InvalidKind"


class InvalidPlace(NetError):
    """A value at an index is no right place."""

    def __init__(self, at):
        NetError.__init__(self, "not a right place")
        self.at = at
        self.code = "InvalidPlace"


class InvalidTie(NetError):
    """A value at an index is no right tie."""

    def __init__(self, at):
        NetError.__init__(self, "not a right tie")
        self.at = at
        self.code = "InvalidTie"


class DuplicateName(NetError):
    """Two places have one name."""

    def __init__(self, name):
        NetError.__init__(self, "a place has this name")
        self.name = name
        self.code = "DuplicateName"


class Itself(NetError):
    """A tie joins a spot with itself."""

    def __init__(self, name):
        NetError.__init__(self, "a spot is joined with itself")
        self.name = name
        self.code = "Itself"


class TwiceTold(NetError):
    """A tie is told twice."""

    def __init__(self, tie):
        NetError.__init__(self, "this tie is told twice")
        self.tie = tie
        self.code = "TwiceTold"


class TooMany(NetError):
    """There are more of something than may be."""

    def __init__(self, most):
        NetError.__init__(self, "there are too many")
        self.most = most
        self.code = "TooMany"


class InvalidText(NetError):
    """A line of a text cannot stand where it does."""

    def __init__(self, line, why):
        NetError.__init__(self, "the text has a wrong line")
        self.line = line
        self.why = why
        self.code = "InvalidText"


class InvalidPictures(NetError):
    """The pictures of a motion are wrong."""

    def __init__(self, name):
        NetError.__init__(self, "not right pictures")
        self.name = name
        self.code = "InvalidPictures"


class Misfit(NetError):
    """Two things do not fit together."""

    def __init__(self):
        NetError.__init__(self, "these do not fit together")
        self.code = "Misfit"


class InvalidLattice(NetError):
    """A value is no right lattice."""

    def __init__(self):
        NetError.__init__(self, "not a right lattice")
        self.code = "InvalidLattice"


class Falls(NetError):
    """A net that must be one piece is none."""

    def __init__(self, many):
        NetError.__init__(self, "the net is not one piece")
        self.many = many
        self.code = "Falls"


class Finite(NetError):
    """A place lies in a finite part of a net."""

    def __init__(self, name):
        NetError.__init__(self, "the part of the net is finite")
        self.name = name
        self.code = "Finite"


class Unsteady(NetError):
    """Two spots of a net have the same resting point."""

    def __init__(self, one, other):
        NetError.__init__(self, "two spots rest at one point")
        self.one = one
        self.other = other
        self.code = "Unsteady"


class NotLeast(NetError):
    """A book has a hidden shift."""

    def __init__(self, shift):
        NetError.__init__(self, "the book has a hidden shift")
        self.shift = shift
        self.code = "NotLeast"


class Taken(NetError):
    """A name or a label is in use."""

    def __init__(self, name):
        NetError.__init__(self, "the name is taken")
        self.name = name
        self.code = "Taken"


class InvalidBook(NetError):
    """A value is no book."""

    def __init__(self):
        NetError.__init__(self, "not a book")
        self.code = "InvalidBook"


class Known(NetError):
    """A net stands on the shelf."""

    def __init__(self, name):
        NetError.__init__(self, "the net is known")
        self.name = name
        self.code = "Known"


class InvalidDeed(NetError):
    """A value at an index is no deed."""

    def __init__(self, at):
        NetError.__init__(self, "not a deed")
        self.at = at
        self.code = "InvalidDeed"


class Missing(LookupError):
    """Something that is asked for is not there."""


class UnknownName(Missing):
    """Nothing has this name."""

    def __init__(self, name):
        Missing.__init__(self, "nothing has this name")
        self.name = name
        self.code = "UnknownName"


class UnknownTie(Missing):
    """A value is no tie of the book."""

    def __init__(self, tie):
        Missing.__init__(self, "not a tie of the book")
        self.tie = tie
        self.code = "UnknownTie"


class UnknownSpot(Missing):
    """A value is no spot of the net."""

    def __init__(self, spot):
        Missing.__init__(self, "not a spot of the net")
        self.spot = spot
        self.code = "UnknownSpot"


class NothingLeft(IndexError):
    """There is no step to undo or to do again."""

    def __init__(self):
        IndexError.__init__(self, "there is no such step")
        self.code = "NothingLeft"
