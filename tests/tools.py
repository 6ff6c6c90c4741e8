"""What several tests need: any values, and calls that must raise."""

from endlessnets.books import Book
from endlessnets.lattices import Lattice

LETTERS = "abcdefghijklmnopqrstuvwxyz"
ANY_VALUES = [
    None, True, False, 0, 1, -7, 10 ** 39, "", "a", "abcdefg", "a\n", "A", "a b", (), [], {}, (0,), (1, 0), (1, 1),
    [1, 1], (True, 1), (0, 0), (0, 0, 0), ((1, 0), (0, 1)), ((1,),), [(1,)], ("a", (0, 0)), ("a", [0, 0]),
    (("a", (0,)),), {"a": (1, 2)}, {"a": {"b": [None]}}, ((((((((1,),),),),),),),), (None, None), (1, "a", (0, 0)),
    ("a", "b", (0, 0)), ("a", "a", (True, 0)), Book(1, [("a", "node")]), Lattice(2),
]


def outcome(function, *told, **more):
    """What a call returns, or the code and the attributes of the error that it raises."""
    try:
        return ("returned", function(*told, **more))
    except (ValueError, LookupError) as error:
        attributes = {name: value for name, value in vars(error).items() if name != "code"}
        return (error.code, attributes)


def raised(code, **attributes):
    """The outcome of a call that raises an error."""
    return (code, attributes)
