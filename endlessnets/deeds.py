"""Deeds: what is done on a bench, each one on what the earlier ones made."""

from endlessnets.errors import InvalidDeed, InvalidName, Known, Taken
from endlessnets.holdings import check_held
from endlessnets.keys import key
from endlessnets.leastbooks import LeastBook
from endlessnets.nets import Net, net_with
from endlessnets.settling import settled
from endlessnets.words import is_name


def check_free(name, used):
    """Raises the error for any value that is no name, or one that is in use."""
    if not is_name(name):
        raise InvalidName(name)
    if name in used:
        raise Taken(name)


def hold_net(holding, name, net):
    """Holds under a name what a net object is now."""
    holding.hold(name, net.present, net.changes)


def net_of(holding, name):
    """A net object that is as the one that is held under a name."""
    check_held(holding.books, name)
    return net_with(holding.books[name], holding.counts[name])


def put_book(holding, name, book):
    """Holds a new net object with a book."""
    check_free(name, holding.books)
    hold_net(holding, name, Net(book))


def copy_net(holding, name, other):
    """Holds a new net object with the book of another one."""
    check_held(holding.books, name)
    check_free(other, holding.books)
    hold_net(holding, other, Net(holding.books[name]))


def drop_net(holding, name):
    """Holds a net object no longer."""
    check_held(holding.books, name)
    holding.drop(name)


def tie_net(holding, name, tie):
    """Adds a tie to a net."""
    net = net_of(holding, name)
    net.add_tie(tie)
    hold_net(holding, name, net)


def strike_net(holding, name, tie):
    """Takes a tie away from a net."""
    net = net_of(holding, name)
    net.strike(tie)
    hold_net(holding, name, net)


def add_to_net(holding, name, place, kind):
    """Adds a place to a net."""
    net = net_of(holding, name)
    net.add_place(place, kind)
    hold_net(holding, name, net)


def remove_from_net(holding, name, place):
    """Takes a place away from a net."""
    net = net_of(holding, name)
    net.remove_place(place)
    hold_net(holding, name, net)


def paint_net(holding, name, place, kind):
    """Gives a place of a net another kind."""
    net = net_of(holding, name)
    net.paint(place, kind)
    hold_net(holding, name, net)


def retell_net(holding, name, motion):
    """Carries a net by a motion."""
    net = net_of(holding, name)
    net.retell(motion)
    hold_net(holding, name, net)


def coarsen_net(holding, name, lattice):
    """Tells a net with the shifts of a lattice alone."""
    net = net_of(holding, name)
    net.coarsen(lattice)
    hold_net(holding, name, net)


def reduce_net(holding, name):
    """Tells a net in its fine lattice."""
    net = net_of(holding, name)
    net.reduce()
    hold_net(holding, name, net)


def settle_net(holding, name):
    """Takes dead ends and twins away from a net."""
    net = net_of(holding, name)
    net.settle()
    hold_net(holding, name, net)


def shelve_net(holding, name, label):
    """Puts the least book of the settled book of a net on the shelf."""
    check_held(holding.books, name)
    check_free(label, holding.shelved)
    book = LeastBook(settled(holding.books[name])).book
    told = key(book)
    known = holding.label_of(told)
    if known is not None:
        raise Known(known)
    holding.shelve(label, book, told)


def clear_label(holding, label):
    """Takes a book off the shelf."""
    check_held(holding.shelved, label)
    holding.unshelve(label)


SIZES = {"put": 3, "copy": 3, "drop": 2, "tie": 3, "strike": 3, "add": 4, "remove": 3, "paint": 4, "retell": 3,
         "coarsen": 3, "reduce": 2, "settle": 2, "shelve": 3, "clear": 2}
DEEDS = {"put": put_book, "copy": copy_net, "drop": drop_net, "tie": tie_net, "strike": strike_net, "add": add_to_net,
         "remove": remove_from_net, "paint": paint_net, "retell": retell_net, "coarsen": coarsen_net,
         "reduce": reduce_net, "settle": settle_net, "shelve": shelve_net, "clear": clear_label}


def is_deed(value):
    """Whether any value is a tuple of a word for a deed and as many items as the word asks for."""
    if not isinstance(value, tuple) or not value or not isinstance(value[0], str):
        return False
    return value[0] in SIZES and len(value) == SIZES[value[0]]


def check_deeds(deeds):
    """Raises the error for the first of some values that is no deed."""
    for at, deed in enumerate(deeds):
        if not is_deed(deed):
            raise InvalidDeed(at)


def held_behind(holding, deeds):
    """The holding behind some deeds."""
    found = holding.copied()
    for deed in deeds:
        word, *told = deed
        act = DEEDS[word]
        act(found, *told)
    return found
