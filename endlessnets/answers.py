"""Answers of a bench to lines of words."""

from endlessnets.classes import is_whole, pieces
from endlessnets.colours import colouring
from endlessnets.holdings import check_held
from endlessnets.keys import settled_key
from endlessnets.leastbooks import LeastBook
from endlessnets.nets import turns_of_settled
from endlessnets.settling import settled
from endlessnets.steadiness import is_steady
from endlessnets.turns import is_handed

NO_ANSWER = "unknown"


def yes_or_no(truth):
    """The word for a truth value."""
    return "yes" if truth else "no"


def nets_answer(holding):
    """The names of the nets."""
    return " ".join(holding.net_names()) if holding.books else "none"


def places_answer(holding, name):
    """The number of places of a net."""
    return str(len(holding.books[name]))


def ties_answer(holding, name):
    """The number of ties of a net."""
    return str(len(holding.books[name].ties()))


def pieces_answer(holding, name):
    """The number of pieces of a net."""
    many = pieces(holding.books[name])
    return "endless" if many is None else str(many)


def steady_answer(holding, name):
    """Whether a net is one piece and steady."""
    book = holding.books[name]
    return yes_or_no(is_whole(book) and is_steady(book))


def turns_answer(holding, name):
    """The number of turns of a net."""
    return str(len(turns_of_settled(holding.books[name])))


def handed_answer(holding, name):
    """Whether a net is handed."""
    return yes_or_no(is_handed(LeastBook(settled(holding.books[name])).book))


def same_answer(holding, one, other):
    """Whether two nets are one but for what they are told with."""
    return yes_or_no(settled_key(holding.books[one]) == settled_key(holding.books[other]))


def known_answer(holding, name):
    """The label of a net on the shelf."""
    label = holding.label_of(settled_key(holding.books[name]))
    return "none" if label is None else label


def colours_answer(holding, name):
    """Whether two colours are enough for a net."""
    return "odd" if colouring(holding.books[name]) is None else "two"


SIZES = {"nets": 1, "places": 2, "ties": 2, "pieces": 2, "steady": 2, "turns": 2, "handed": 2, "same": 3, "known": 2,
         "colours": 2}
ANSWERS = {"nets": nets_answer, "places": places_answer, "ties": ties_answer, "pieces": pieces_answer,
           "steady": steady_answer, "turns": turns_answer, "handed": handed_answer, "same": same_answer,
           "known": known_answer, "colours": colours_answer}


def answer_to(holding, words):
    """The answer to a line of words."""
    word, *names = words
    if word not in SIZES or len(words) != SIZES[word]:
        return NO_ANSWER
    for name in names:
        check_held(holding.books, name)
    answer = ANSWERS[word]
    return answer(holding, *names)
