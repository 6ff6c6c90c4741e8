"""Steps and frames: the shortest steps that tell how a net lies."""

from endlessnets.classes import check_whole
from endlessnets.lattices import hermite
from endlessnets.points import common, enlarged, is_point
from endlessnets.resting import positions, step_between
from endlessnets.shapes import product_in, shape_among
from endlessnets.vectors import dot, led


def steps_among(book, points):
    """The ascending list of the different steps, for a book with these points in the rest."""
    found = {}
    for name in book.names():
        for tie in book.leaving(name):
            found[step_between(points, tie)] = True
    return sorted(found)


def measure_in(table, frame):
    """The measure of a frame with a shape."""
    return tuple([product_in(table, one, other) for at, other in enumerate(frame) for one in frame[:at + 1]])


def are_independent(rows):
    """Whether vectors are linearly independent."""
    return len(hermite(rows, len(rows[0]))) == len(rows)


def longer_frames(frames, known, matrix):
    """The tuples with one more step that have the least new products, and are independent."""
    least = None
    found = []
    ends = [(step, led(step, matrix)) for step in known]
    for frame in frames:
        for step, image in ends:
            products = [*[dot(one, image) for one in frame], dot(step, image)]
            if least is not None and products > least:
                continue
            if are_independent([*frame, step]):
                found = [*(found if products == least else []), (*frame, step)]
                least = products
    return found


def least_among(book, points):
    """The ascending list of the least frames, for a book with these points in the rest."""
    known = steps_among(book, points)
    scale = common(known)
    vectors = {enlarged(step, scale): step for step in known}
    table = shape_among(book, points)
    # Whole numbers are compared faster than fractions, and a common scale keeps the order of the products.
    matrix = [enlarged(row, common(table)) for row in table]
    frames = [()]
    for _ in range(book.directions):
        frames = longer_frames(frames, list(vectors), matrix)
    return sorted([tuple([vectors[vector] for vector in frame]) for frame in frames])


def steps(book):
    """The ascending list of the different steps of a whole book."""
    check_whole(book)
    return steps_among(book, positions(book))


def measure(book, frame):
    """The products of the steps of a frame."""
    check_whole(book)
    return measure_in(shape_among(book, positions(book)), frame)


def is_frame(book, value):
    """Whether any value is a tuple of as many independent steps as the book has directions."""
    check_whole(book)
    if not isinstance(value, tuple) or len(value) != book.directions:
        return False
    known = steps_among(book, positions(book))
    for item in value:
        if not is_point(item, book.directions) or item not in known:
            return False
    scale = common(value)
    return are_independent([enlarged(item, scale) for item in value])


def least_frames(book):
    """The ascending list of the frames with the least measure."""
    check_whole(book)
    return least_among(book, positions(book))
