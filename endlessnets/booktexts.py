"""Reading the texts of books, line by line."""

from endlessnets.bounds import MOST_DIRECTIONS, MOST_PLACES, MOST_TIES
from endlessnets.errors import InvalidText
from endlessnets.vectors import vector_times, zero
from endlessnets.words import consists_of, is_kind, is_name

DIGITS = "0123456789"
MOST_DIGITS = 40


def number_of(word):
    """The number that a word tells, None if a number is not written so."""
    digits = word.removeprefix("-")
    if not 1 <= len(digits) <= MOST_DIGITS or not consists_of(digits, DIGITS):
        return None
    if digits[0] == "0" and word != "0":
        return None
    return int(word)


def words_at(lines, at):
    """The words of the line at an index; the last item of lines stands behind the last line feed."""
    if at == len(lines) - 1:
        raise InvalidText(at, "form" if lines[at] else "missing")
    return lines[at].split(" ")


def read_directions(lines, at):
    """The number of directions in the first line of a book."""
    words = words_at(lines, at)
    if len(words) == 2 and words[0] == "net":
        for directions in range(1, MOST_DIRECTIONS + 1):
            if words[1] == str(directions):
                return directions
    raise InvalidText(at, "form")


def place_fault(words, kinds):
    """What is wrong with the line of a place behind other ones, None if nothing is."""
    if len(words) != 3 or words[0] != "place" or not is_name(words[1]) or not is_kind(words[2]):
        return "form"
    if len(kinds) == MOST_PLACES:
        return "many"
    if words[1] in kinds:
        return "double"
    return None


def read_kinds(lines, start):
    """The kinds by the names of the places, in the order of their lines; there is at least one place."""
    kinds = {}
    at = start
    words = words_at(lines, at)
    while words[0] == "place" or not kinds:
        fault = place_fault(words, kinds)
        if fault is not None:
            raise InvalidText(at, fault)
        kinds[words[1]] = words[2]
        at = at + 1
        words = words_at(lines, at)
    return kinds


def tie_of(words, directions):
    """The tie that the words of a line tell, None if a tie is not written so."""
    if len(words) != 3 + directions or not is_name(words[1]) or not is_name(words[2]):
        return None
    numbers = [number_of(word) for word in words[3:]]
    return None if None in numbers else (words[1], words[2], tuple(numbers))


def tie_fault(tie, kinds, many, told):
    """What is wrong with a tie behind so many others, told from both ends; None if nothing is."""
    if tie is None:
        return "form"
    if many == MOST_TIES:
        return "many"
    if tie in told:
        return "double"
    name, other, vector = tie
    if name not in kinds or other not in kinds:
        return "unknown"
    if name == other and vector == zero(len(vector)):
        return "itself"
    return None


def read_ties(lines, start, directions, kinds):
    """The ties of the lines behind the places."""
    ties = []
    told = {}
    at = start
    words = words_at(lines, at)
    while words[0] == "tie":
        tie = tie_of(words, directions)
        fault = tie_fault(tie, kinds, len(ties), told)
        if fault is not None:
            raise InvalidText(at, fault)
        name, other, vector = tie
        told[tie] = True
        told[(other, name, vector_times(vector, -1))] = True
        ties.append(tie)
        at = at + 1
        words = words_at(lines, at)
    return ties


def read_book_lines(lines, start):
    """The directions, places and ties of the book whose lines begin at an index, and the index behind them."""
    directions = read_directions(lines, start)
    kinds = read_kinds(lines, start + 1)
    behind = start + 1 + len(kinds)
    ties = read_ties(lines, behind, directions, kinds)
    last = behind + len(ties)
    if words_at(lines, last) != ["end"]:
        raise InvalidText(last, "form")
    return (directions, list(kinds.items()), ties, last + 1)
