"""Ties of one book over another, books tied by them, and what undoes or holds a tie."""

from rootrooms.books import are_sized, arrow_sizes, need_book, room_sizes
from rootrooms.errors import NoTie, TooGreat
from rootrooms.lines import fills, solved
from rootrooms.matrices import above, beside, flipped, noughts, ones
from rootrooms.nets import is_heap
from rootrooms.undoing import laid_out, set_up, undoing


def is_tie(net, over, under, thing):
    """Tell of anything whether it is a tie of the over book over the under one."""
    need_book(net, over)
    need_book(net, under)
    return _is_tie(net, over, under, thing)


def need_tie(net, over, under, thing):
    """Refuse what is no tie of the one of these books over the other."""
    if not _is_tie(net, over, under, thing):
        raise NoTie("a tie of the one book over the other is due")


def ties(net, over, under):
    """Tell ties of which, with one that is undone, each tie is in just one way a sum of times."""
    need_book(net, over)
    need_book(net, under)
    found = fills(undoing(net, over, under), prime=net.prime)
    sizes = arrow_sizes(net, over[0], under[0])
    return [set_up(sizes, column) for column in flipped(found, prime=net.prime)[2]]


def tied(net, over, under, tie):
    """Tell the tied book, the under one's way in, and the way out to the over one."""
    need_book(net, over)
    need_book(net, under)
    need_tie(net, over, under, tie)
    heap = tuple([x + y for x, y in zip(under[0], over[0])])
    if not is_heap(net, heap):
        raise TooGreat("the heaps of the two come to no heap")
    maps = [_tied_matrix(one, right, more, net.prime) for one, right, more in zip(under[1], tie, over[1])]
    way_in = []
    way_out = []
    for one, more in zip(under[0], over[0]):
        way_in.append(above([ones(one), noughts(more, one)], columns=one, prime=net.prime))
        way_out.append(beside([noughts(more, one), ones(more)], rows=more, prime=net.prime))
    return (heap, tuple(maps)), tuple(way_in), tuple(way_out)


def held(net, over, under, tie):
    """Tell ("undone", h) of a tie, or ("held", weights) that tell it from all that are undone."""
    need_book(net, over)
    need_book(net, under)
    need_tie(net, over, under, tie)
    numbers = tuple([(x,) for x in laid_out(tie)])
    word, found = solved(undoing(net, over, under), (len(numbers), 1, numbers), prime=net.prime)
    if word == "solved":
        return "undone", set_up(room_sizes(over[0], under[0]), laid_out([found]))
    return "held", set_up(arrow_sizes(net, over[0], under[0]), laid_out([found]))


def _is_tie(net, over, under, thing):
    return are_sized(thing, arrow_sizes(net, over[0], under[0]), net.prime)


def _tied_matrix(one, right, more, prime):
    """Tell the under one's matrix, beside it the tie's, and below these noughts and the over one's."""
    first = beside([one, right], rows=one[0], prime=prime)
    second = beside([noughts(more[0], one[1]), more], rows=more[0], prime=prime)
    return above([first, second], columns=one[1] + more[1], prime=prime)
