"""Systems of equations with whole numbers, in which no leading minor is 0."""

from endlessnets.ratios import ratio
from endlessnets.vectors import dot


def triangle(rows, width):
    """Rows that ask the same of so many unknowns, each one without the unknowns of those ahead of it."""
    found = []
    lines = rows
    last = 1
    for _ in range(width):
        chosen = lines[0]
        found.append(chosen)
        pairs = [(line[0], line) for line in lines[1:]]
        # Dividing by the pivot ahead leaves no rest, and keeps the numbers as small as minors are.
        lines = [[(chosen[0] * left - head * right) // last for left, right in zip(line[1:], chosen[1:])]
                 for head, line in pairs]
        last = chosen[0]
    return found


def unknowns(rows, width, at):
    """The fractions that solve the rows of a triangle with their results at an index behind the unknowns."""
    under = rows[-1][0]
    found = []
    for row in reversed(rows):
        known = row[1:len(found) + 1]
        result = row[len(found) + 1 + at]
        found = [(under * result - dot(known, found)) // row[0], *found]
    return [ratio(number, under) for number in found]


def solved_at_once(rows, width):
    """For rows of numbers and behind them their results: for each unknown the tuple of its fractions."""
    lines = triangle(rows, width)
    columns = [unknowns(lines, width, at) for at in range(len(rows[0]) - width)] if rows else []
    return list(zip(*columns))
