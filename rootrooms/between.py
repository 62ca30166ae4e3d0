"""All maps of one book to another."""

from rootrooms.books import need_book, room_sizes
from rootrooms.lines import kills
from rootrooms.matrices import flipped
from rootrooms.undoing import set_up, undoing


def maps(net, one, other):
    """Tell maps of one book to another of which each map is in just one way a sum of times."""
    need_book(net, one)
    need_book(net, other)
    found = kills(undoing(net, one, other), prime=net.prime)
    sizes = room_sizes(one[0], other[0])
    return [set_up(sizes, column) for column in flipped(found, prime=net.prime)[2]]
