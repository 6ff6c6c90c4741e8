"""Words: names, kinds, numbers within bounds, and list names."""

from endlessnets.errors import InvalidNumber

LETTERS = "abcdefghijklmnopqrstuvwxyz"
MARKS = "()[],"
NAME_SIZE = 6
KIND_SIZE = 2000


def is_integer_value(value):
    """Whether any value is a number; True and False are none."""
    return isinstance(value, int) and not isinstance(value, bool)


def is_number(value, least, most):
    """Whether any value is a number from least to most."""
    return is_integer_value(value) and least <= value <= most


def consists_of(text, signs):
    """Whether each character of a text is one of the signs."""
    return all([sign in signs for sign in text])


def is_name(value):
    """Whether any value is a name."""
    return isinstance(value, str) and 1 <= len(value) <= NAME_SIZE and consists_of(value, LETTERS)


def is_kind(value):
    """Whether any value is a kind."""
    return isinstance(value, str) and 1 <= len(value) <= KIND_SIZE and consists_of(value, LETTERS + MARKS)


def is_plain(value):
    """Whether any value is a plain kind."""
    return is_kind(value) and consists_of(value, LETTERS)


def list_name(at):
    """The two letters that tell an index below 26 * 26."""
    if not is_number(at, 0, len(LETTERS) * len(LETTERS) - 1):
        raise InvalidNumber(at)
    return LETTERS[at // len(LETTERS)] + LETTERS[at % len(LETTERS)]
