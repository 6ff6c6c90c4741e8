"""Flows along the ties of a net, and the calm ones with the least work."""

from endlessnets.books import standard
from endlessnets.classes import check_whole
from endlessnets.errors import InvalidVector
from endlessnets.points import is_point, point_of, point_plus, point_times
from endlessnets.ratios import NOTHING, is_fraction, minus, plus, ratio, times
from endlessnets.resting import positions, step_between
from endlessnets.shapes import product_in, shape_among
from endlessnets.vectors import zero


def calm_flow(book, drift):
    """The balanced flow with a drift and the least work."""
    check_whole(book)
    if not is_point(drift, book.directions):
        raise InvalidVector(0)
    points = positions(book)
    table = shape_among(book, points)
    return {tie: product_in(table, step_between(points, tie), drift) for tie in book.ties()}


def is_flow(book, value):
    """Whether any value is a dict from just the standard forms of the ties to fractions."""
    check_whole(book)
    if not isinstance(value, dict) or len(value) != len(book.ties()):
        return False
    for tie in value:
        if not book.has_tie(tie) or standard(tie) != tie or not is_fraction(value[tie]):
            return False
    return True


def is_balanced(book, flow):
    """Whether at each place as much goes out as comes in."""
    check_whole(book)
    left = {name: NOTHING for name in book.names()}
    for tie in flow:
        left[tie[0]] = minus(left[tie[0]], flow[tie])
        left[tie[1]] = plus(left[tie[1]], flow[tie])
    return all([fraction == NOTHING for fraction in left.values()])


def drift(book, flow):
    """The sum over the ties of the flow times the vector."""
    check_whole(book)
    result = point_of(zero(book.directions))
    for tie in flow:
        result = point_plus(result, point_times(point_of(tie[2]), flow[tie]))
    return result


def work(book, flow):
    """The sum of the squares of the numbers of a flow."""
    check_whole(book)
    result = NOTHING
    for fraction in flow.values():
        result = plus(result, times(fraction, fraction))
    return result


def round_flow(book, path):
    """The flow that goes along a closed path once."""
    check_whole(book)
    counts = {tie: 0 for tie in book.ties()}
    for tie in path:
        form = standard(tie)
        counts[form] = counts[form] + (1 if form == tie else -1)
    return {tie: ratio(counts[tie]) for tie in counts}
