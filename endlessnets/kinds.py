"""Kinds that tell what hung on a place and what was folded into it."""

from endlessnets.bounds import MOST_PLACES
from endlessnets.errors import TooMany
from endlessnets.words import KIND_SIZE, LETTERS, list_name

PARTNERS = {")": "(", "]": "["}


def check_size(kind):
    """Raises the error for a kind with too many characters."""
    if len(kind) > KIND_SIZE:
        raise TooMany(KIND_SIZE)


def listed(kinds):
    """Kinds in ascending order, with commas between."""
    return ",".join(sorted(kinds))


def dressed(kind, hung):
    """A kind that tells the dressed kinds of what hung on its place."""
    return f"{kind}({listed(hung)})" if hung else kind


def closes(sign, depths):
    """Whether a bracket closes the last one of those that are open, told with the numbers of their items."""
    opened, many = depths[-1]
    return opened == PARTNERS[sign] and (sign == ")" or many > 1)


def readable_from(kind):
    """Whether a kind is readable from its beginning to its end."""
    depths = []
    # A kind begins behind an opening bracket or a comma; letters go on; behind all else a bracket or comma must follow.
    begins, letters = True, False
    for sign in kind:
        if sign in LETTERS:
            if not begins and not letters:
                return False
        elif sign in ("[", "("):
            if begins != (sign == "["):
                return False
            depths.append((sign, 1))
        elif begins or not depths:
            return False
        elif sign == ",":
            opened, many = depths.pop()
            depths.append((opened, many + 1))
        elif not closes(sign, depths):
            return False
        else:
            depths.pop()
        begins, letters = sign in ("[", "(", ","), sign in LETTERS
    return not depths


def plain_many(kind):
    """The number of plain kinds of which a readable kind consists."""
    ends = [sign not in LETTERS for sign in kind[1:]]
    return len([sign for sign, ending in zip(kind, [*ends, True]) if sign in LETTERS and ending])


def opening_of(kind):
    """The index of the bracket that the last bracket of a readable kind closes."""
    depth = 0
    at = len(kind)
    while at == len(kind) or depth > 0:
        at = at - 1
        if kind[at] in (")", "]"):
            depth = depth + 1
        elif kind[at] in ("(", "["):
            depth = depth - 1
    return at


def items_of(text):
    """The kinds of a list with commas between."""
    found = []
    depth = 0
    start = 0
    for at, sign in enumerate(text):
        if sign in ("(", "["):
            depth = depth + 1
        elif sign in (")", "]"):
            depth = depth - 1
        elif sign == "," and depth == 0:
            found.append(text[start:at])
            start = at + 1
    return [*found, text[start:]]


def taken_off(kind):
    """What stands ahead of the last list of a readable kind, the empty string if nothing does, and the list."""
    at = opening_of(kind)
    return (kind[:at], items_of(kind[at + 1:-1]))


def free_names(used, many):
    """So many names that are not in use, where no more than 64 places come about."""
    names = [list_name(at) for at in range(MOST_PLACES)]
    return [name for name in names if name not in used][:many]
