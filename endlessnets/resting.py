"""Rest positions: points of the spots at which each spot is the mean of its neighbours."""

from endlessnets.classes import check_whole, path_sum
from endlessnets.equations import solved_at_once
from endlessnets.errors import UnknownTie
from endlessnets.points import is_point, point_minus, point_of, point_plus, whole
from endlessnets.spots import check_spot
from endlessnets.vectors import zero


def balance_row(book, name, places):
    """What [13] asks at a place: a number for each of the places, and behind them the results."""
    ways = [tie for tie in book.leaving(name) if tie[1] != name]
    ends = [tie[1] for tie in ways]
    numbers = [len(ends) if place == name else -ends.count(place) for place in places]
    return [*numbers, *path_sum(book, ways)]


def positions(book):
    """The rest of a book that is whole."""
    first, *places = book.names()
    rows = [balance_row(book, name, places) for name in places]
    points = {first: point_of(zero(book.directions))}
    for name, point in zip(places, solved_at_once(rows, len(places))):
        points[name] = point
    return points


def spot_point(points, spot):
    """The point of a spot, for points of the places."""
    return point_plus(points[spot[0]], point_of(spot[1]))


def step_between(points, tie):
    """The step of a directed tie, for points of the places."""
    return point_minus(spot_point(points, (tie[1], tie[2])), points[tie[0]])


def excesses(book, points):
    """The sums of the steps that lead from the places, by their names."""
    found = {}
    for name in book.names():
        result = point_of(zero(book.directions))
        for tie in book.leaving(name):
            result = point_plus(result, step_between(points, tie))
        found[name] = result
    return found


def rest(book):
    """The rest positions with the zero point for the first place."""
    check_whole(book)
    return positions(book)


def is_rest(book, value):
    """Whether any value is a dict of rest positions of a book."""
    check_whole(book)
    if not isinstance(value, dict) or len(value) != len(book):
        return False
    for name in book.names():
        if name not in value or not is_point(value[name], book.directions):
            return False
    nothing = point_of(zero(book.directions))
    return all([point == nothing for point in excesses(book, value).values()])


def excess(book, points):
    """The excess at each place, for any points of the places."""
    check_whole(book)
    return excesses(book, points)


def resting_point(book, spot):
    """The point of a spot in the rest."""
    check_whole(book)
    check_spot(book, spot)
    return spot_point(positions(book), spot)


def step(book, tie):
    """The difference between the resting points at the ends of a directed tie."""
    check_whole(book)
    if not book.has_tie(tie):
        raise UnknownTie(tie)
    return step_between(positions(book), tie)


def spot_at(book, point):
    """The ascending list of the spots that rest at a point."""
    check_whole(book)
    points = positions(book)
    vectors = [(name, whole(point_minus(point, points[name]))) for name in points]
    return [spot for spot in vectors if spot[1] is not None]
