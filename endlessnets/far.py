"""Far ways: the norms of vectors, papers that prove them, and routes over any number of cells."""

from endlessnets.books import turned
from endlessnets.classes import check_name, check_whole, is_path, path_sum, paths_from
from endlessnets.errors import InvalidDirections, InvalidNumber, InvalidVector
from endlessnets.points import common, is_point, point_dot, point_of, point_plus, point_times, solved
from endlessnets.ratios import NOTHING, floor_of, is_fraction, is_less, minus, plus, ratio, sign
from endlessnets.rounds import is_back_and_forth, rounds_by_sum, rounds_towards
from endlessnets.spots import check_spot
from endlessnets.vectors import is_vector, vector_minus, zero
from endlessnets.words import is_integer_value

MOST_FAR = 2
JOIN = (1, 1)


def check_far(book):
    """Raises the error for a book that is not whole or has too many directions."""
    check_whole(book)
    if book.directions > MOST_FAR:
        raise InvalidDirections(book.directions)


def check_vector(book, vector):
    """Raises the error for any value that is no vector of a book."""
    if not is_vector(vector, book.directions):
        raise InvalidVector(0)


def ahead(front, tie):
    """How much further a directed tie leads, as a front tells it."""
    return point_dot(front, point_of(tie[2]))


def heights_behind(book, front):
    """Heights with which no directed tie leads further than one join, for a front that has some."""
    found = {book.names()[0]: NOTHING}
    changed = True
    while changed:
        changed = False
        for name in list(found):
            for tie in book.leaving(name):
                height = plus(found[name], minus(JOIN, ahead(front, tie)))
                if tie[1] not in found or is_less(height, found[tie[1]]):
                    found[tie[1]] = height
                    changed = True
    return tuple([(name, found[name]) for name in book.names()])


def paper_for(book, vector):
    """A far paper for a vector."""
    known = rounds_by_sum(book)
    chosen = rounds_towards(list(known), vector)
    sums = [point_of(reached) for reached, _ in chosen]
    front = solved(sums, [ratio(length) for _, length in chosen])
    numbers = solved(list(zip(*sums)), list(point_of(vector)))
    rounds = [(number, known[pair]) for number, pair in zip(numbers, chosen) if number != NOTHING]
    return (point_dot(front, point_of(vector)), front, heights_behind(book, front), tuple(rounds))


def are_heights(book, front, value):
    """Whether any value tells heights with which no directed tie leads further than one join."""
    if not isinstance(value, tuple):
        return False
    for pair in value:
        if not isinstance(pair, tuple) or len(pair) != 2 or not is_fraction(pair[1]):
            return False
    if [name for name, _ in value] != book.names():
        return False
    heights = {name: height for name, height in value}
    ties = [tie for name in book.names() for tie in book.leaving(name)]
    risen = [plus(ahead(front, tie), minus(heights[tie[1]], heights[tie[0]])) for tie in ties]
    return not any([is_less(JOIN, height) for height in risen])


def are_rounds(book, vector, least, value):
    """Whether any value tells simple rounds with fractions that reach a vector with a length."""
    if not isinstance(value, tuple):
        return False
    reached = point_of(zero(book.directions))
    length = NOTHING
    for pair in value:
        if not isinstance(pair, tuple) or len(pair) != 2 or not is_fraction(pair[0]) or sign(pair[0]) < 1:
            return False
        number, path = pair
        if not is_simple_round(book, path):
            return False
        reached = point_plus(reached, point_times(point_of(path_sum(book, path)), number))
        length = plus(length, ratio(number[0] * len(path), number[1]))
    return reached == point_of(vector) and length == least


def branches_from(book, name):
    """The directed ties of a tree that reaches all places from one of them, by the places from which they lead."""
    found = {place: [] for place in book.names()}
    for path in paths_from(book, name).values():
        if path:
            found[path[-1][0]].append(path[-1])
    return found


def toured(name, rounds, branches):
    """A route of the rounds that begin at a place or behind it in a tree, from this place to itself."""
    found = list(rounds[name])
    for tie in branches[name]:
        inner = toured(tie[1], rounds, branches)
        if inner:
            found = [*found, (1, (tie,)), *inner, (1, (turned(tie),))]
    return found


def is_simple_round(book, value):
    """Whether any value is a simple round of a book."""
    if not is_path(book, value) or value[0][0] != value[-1][1]:
        return False
    return len(set([tie[0] for tie in value])) == len(value) and not is_back_and_forth(value)


def simple_rounds(book):
    """The ascending list of the pairs (sum, length) of all simple rounds."""
    check_far(book)
    return sorted(rounds_by_sum(book))


def norm(book, vector):
    """The least length of rounds that sum to a vector, where fractions of rounds count as such parts of them."""
    return far_paper(book, vector)[0]


def far_paper(book, vector):
    """A proof of the norm of a vector: a front and heights that it cannot be below, and rounds that reach it."""
    check_far(book)
    check_vector(book, vector)
    return paper_for(book, vector)


def is_far_paper(book, vector, value):
    """Whether any value is a far paper for a vector."""
    check_far(book)
    check_vector(book, vector)
    if not isinstance(value, tuple) or len(value) != 4:
        return False
    least, front, heights, rounds = value
    if not is_fraction(least) or not is_point(front, book.directions):
        return False
    if point_dot(front, point_of(vector)) != least or not are_heights(book, front, heights):
        return False
    return are_rounds(book, vector, least, rounds)


def period(paper):
    """The least number that makes all fractions of the rounds of a far paper whole."""
    return common([tuple([number for number, _ in paper[3]])])


def far_route(book, name, paper, times):
    """A route from the first spot of a place to the one that lies so many times the vector of a far paper away."""
    check_far(book)
    check_name(book, name)
    if not is_integer_value(times) or times < 1 or times % period(paper) != 0:
        raise InvalidNumber(times)
    rounds = {place: [] for place in book.names()}
    for number, path in paper[3]:
        rounds[path[0][0]].append((times * number[0] // number[1], path))
    return toured(name, rounds, branches_from(book, name))


def least_distance(book, paper, one, other):
    """The least whole number, from 0 on, that is not below what a far paper says of the distance of two spots."""
    check_far(book)
    check_spot(book, one)
    check_spot(book, other)
    heights = {name: height for name, height in paper[2]}
    further = point_dot(paper[1], point_of(vector_minus(other[1], one[1])))
    bound = plus(further, minus(heights[other[0]], heights[one[0]]))
    return max(0, -floor_of(minus(NOTHING, bound)))
