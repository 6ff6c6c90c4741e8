"""What several tests need: any values, and calls that must raise."""

from endlessnets.bench import Bench
from endlessnets.books import Book
from endlessnets.errors import Misfit
from endlessnets.lattices import Lattice
from endlessnets.nets import Net

LETTERS = "abcdefghijklmnopqrstuvwxyz"
ANY_VALUES = [
    None, True, False, 0, 1, -7, 10 ** 39, "", "a", "abcdefg", "a\n", "A", "a b", (), [], {}, (0,), (1, 0), (1, 1),
    [1, 1], (True, 1), (0, 0), (0, 0, 0), ((1, 0), (0, 1)), ((1,),), [(1,)], ("a", (0, 0)), ("a", [0, 0]),
    (("a", (0,)),), {"a": (1, 2)}, {"a": {"b": [None]}}, ((((((((1,),),),),),),),), (None, None), (1, "a", (0, 0)),
    ("a", "b", (0, 0)), ("a", "a", (True, 0)), Book(1, [("a", "node")]), Lattice(2),
    Net(Book(1, [("a", "node")])), Bench(), Misfit(),
]


def outcome(function, *told, **more):
    """What a call returns, or the code and the attributes of the error that it raises."""
    try:
        return ("returned", function(*told, **more))
    except (ValueError, LookupError) as error:
        attributes = {name: value for name, value in vars(error).items() if name != "code"}
        return (error.code, attributes)


def raised(code, **attributes):
    """The outcome of a call that raises an error."""
    return (code, attributes)


def falls_first(test, function, *more, falling, **named):
    """Each of the books that are not whole has its error ahead of all others, whatever is passed beside it."""
    for book, many in falling:
        test.assertEqual(outcome(function, book, *more, **named), raised("Falls", many=many))


def emptied(value):
    """Empties all lists and dicts within a value."""
    inner = value.values() if isinstance(value, dict) else value
    for item in list(inner) if isinstance(value, (list, tuple, dict)) else ():
        emptied(item)
    if isinstance(value, (list, dict)):
        value.clear()


def gives_new(test, function, *told, **more):
    """Equal calls return equal results, and what is done to one result does not change the next one."""
    first = function(*told, **more)
    kept = repr(first)
    test.assertEqual(repr(function(*told, **more)), kept)
    emptied(first)
    test.assertEqual(repr(function(*told, **more)), kept)
