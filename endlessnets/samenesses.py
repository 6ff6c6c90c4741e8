"""Samenesses: all one-to-one maps of one net onto another one that keep kinds and joins."""

from endlessnets.errors import Misfit
from endlessnets.frames import least_among, measure_in
from endlessnets.laidbooks import LaidBook
from endlessnets.leastbooks import LeastBook, check_least
from endlessnets.motions import Motion
from endlessnets.points import table_inverse, table_of, table_times, whole_matrix
from endlessnets.resting import resting_point
from endlessnets.shapes import shape_among
from endlessnets.trials import break_of, picture_in
from endlessnets.vectors import zero
from endlessnets.words import is_integer_value


class FramedBook:
    """A steady least book, laid at its resting points, with its least frames and their measure."""

    def __init__(self, book):
        self.book = book
        self.laid = LaidBook(book)
        self.frames = least_among(book, self.laid.points)
        self.measure = measure_in(shape_among(book, self.laid.points), self.frames[0])


def framed_least(book):
    """A book with its least frames; raises the error for one that is not whole, not steady or not least."""
    check_least(book)
    return FramedBook(book)


def told_beginnings(one, other):
    """The beginnings between two framed books, with their tables and points."""
    back = table_inverse(one.frames[0])
    tables = [(frame, table_times(back, frame)) for frame in other.frames]
    points = other.laid.points
    # The first place of the first book rests at the zero point, so no table moves it.
    return [((name, frame), table, points[name]) for name in points for frame, table in tables]


def difference(one, other):
    """The first number in which two framed books differ, told as a verdict; None if there is none."""
    told = [("directions", one.book.directions, other.book.directions), ("places", len(one.book), len(other.book)),
            ("ties", len(one.book.ties()), len(other.book.ties())), ("measure", one.measure, other.measure)]
    for word, left, right in told:
        if left != right:
            return (word, left, right)
    return None


def ends_between(one, other):
    """The triples of beginning, break and motion between two framed books; one of the last two is None."""
    found = []
    for beginning, table, point in told_beginnings(one, other):
        stop = break_of(one.laid, other.laid, table, point)
        motion = None
        if stop is None:
            spots = {name: picture_in(one.laid, other.laid, name, table, point) for name in one.laid.points}
            motion = Motion(whole_matrix(table), spots)
        found.append((beginning, stop, motion))
    return found


def motions_among(ends):
    """The motions in which beginnings ended, in the ascending order of their matrices."""
    by_matrix = {motion.matrix(): motion for _, stop, motion in ends if stop is None}
    return [by_matrix[matrix] for matrix in sorted(by_matrix)]


def motions_between(one, other):
    """The standard samenesses of two framed books."""
    return [] if difference(one, other) is not None else motions_among(ends_between(one, other))


def verdict_between(one, other):
    """The verdict on two framed books."""
    told = difference(one, other)
    if told is not None:
        return told
    ends = ends_between(one, other)
    found = motions_among(ends)
    if found:
        return ("same", found[0])
    return ("breaks", [(beginning, stop) for beginning, stop, _ in ends])


def leads_onto(one, other, value):
    """Whether any value is a motion that carries one book into another one."""
    return isinstance(value, Motion) and value.fits(one) and value.carry(one) == other


def is_standard(one, other, value):
    """Whether any value is a standard sameness of two least books."""
    if not leads_onto(one, other, value):
        return False
    first = value.lead((one.names()[0], zero(one.directions)))
    return first[1] == zero(one.directions)


def is_like(value, told):
    """Whether any value equals what is told in tuples, words and numbers, without True and False in place of these."""
    if isinstance(told, tuple):
        if not isinstance(value, tuple) or len(value) != len(told):
            return False
        return all([is_like(item, part) for item, part in zip(value, told)])
    if is_integer_value(told):
        return is_integer_value(value) and value == told
    return value == told


def beginnings(one, other):
    """The beginnings between two steady least books, with their tables and points."""
    left = framed_least(one)
    right = framed_least(other)
    if one.directions != other.directions:
        raise Misfit()
    for told in told_beginnings(left, right):
        yield told


def motions(one, other):
    """The standard samenesses of the nets of two steady least books."""
    left = framed_least(one)
    right = framed_least(other)
    return motions_between(left, right)


def is_sameness(one, other, value):
    """Whether any value is a motion that is a sameness of the nets of two steady least books."""
    check_least(one)
    check_least(other)
    return leads_onto(one, other, value)


def verdict(one, other):
    """Whether two steady books describe one net: with a motion, or with what differs, or with all breaks."""
    left = LeastBook(one).book
    right = LeastBook(other).book
    return verdict_between(FramedBook(left), FramedBook(right))


def is_verdict(one, other, value):
    """Whether any value is the verdict on two steady books, with any standard sameness in place of the first one."""
    told = verdict(one, other)
    if told[0] not in ("same", "breaks"):
        return is_like(value, told)
    if not isinstance(value, tuple) or len(value) != 2 or value[0] != told[0]:
        return False
    if told[0] == "same":
        return is_standard(LeastBook(one).book, LeastBook(other).book, value[1])
    return isinstance(value[1], (list, tuple)) and is_like(tuple(value[1]), tuple(told[1]))


def same(one, other, *, kinds=True):
    """A sameness of the nets of two steady books, None if there is none."""
    left = one if kinds else one.in_one_kind()
    right = other if kinds else other.in_one_kind()
    told = verdict(left, right)
    return Sameness(left, right, told[1]) if told[0] == "same" else None


class Sameness:
    """A map of the net of one steady book onto the net of another one, told by a motion of their least books."""

    def __init__(self, one, other, motion):
        left = LeastBook(one)
        right = LeastBook(other)
        if not leads_onto(left.book, right.book, motion):
            raise Misfit()
        self.one = one
        self.other = other
        self.motion = motion
        self._left = left
        self._right = right

    def lead(self, spot):
        """The spot of the other net for a spot of the first one."""
        return self._right.to_outer(self.motion.lead(self._left.to_least(spot)))

    def back(self, spot):
        """The spot of the first net for a spot of the other one."""
        motion = ~self.motion
        return self._left.to_outer(motion.lead(self._right.to_least(spot)))

    def affine(self):
        """The table and the point by which the resting points are moved."""
        fine = table_times(table_inverse(self._left.basis()), table_of(self.motion.matrix()))
        first = (self.one.names()[0], zero(self.one.directions))
        return (table_times(fine, self._right.basis()), resting_point(self.other, self.lead(first)))

    def inverse(self):
        """The sameness that leads back."""
        return Sameness(self.other, self.one, ~self.motion)

    def __eq__(self, other):
        return (isinstance(other, Sameness) and self.one == other.one and self.other == other.other
                and self.motion == other.motion)

    def __repr__(self):
        return f"Sameness({len(self.one)} and {len(self.other)} places)"
