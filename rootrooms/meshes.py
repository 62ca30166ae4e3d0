"""The meshes of the parts of few nets, and maps into a part lifted through its mesh or split by a way back."""

from rootrooms.between import maps
from rootrooms.books import need_book, need_map
from rootrooms.cuts import arrows_hit
from rootrooms.errors import TooGreat
from rootrooms.lines import solved
from rootrooms.matrices import above, product, times
from rootrooms.nets import is_heap, need_few
from rootrooms.parts import counts_of, part_of
from rootrooms.rests import contrary
from rootrooms.roots import before, need_root
from rootrooms.ties import held, tied, ties


def mesh(net, root):
    """Tell the mesh of a root: the root before it or None, the book between, the way into it or None, the way out."""
    need_few(net)
    need_root(net, root)
    first = before(net, root)
    if first is None:
        book, out = arrows_hit(net, part_of(net, root))
        return None, book, None, out
    _need_between(net, first, root)
    over, under = part_of(net, root), part_of(net, first)
    book, way_in, way_out = tied(net, over, under, _tie(net, over, under))
    return first, book, way_in, way_out


def lifted(net, root, book, led):
    """Tell a map by which this one, of the book to the root's part, goes through its mesh, or a way back."""
    need_few(net)
    need_root(net, root)
    need_book(net, book)
    over = part_of(net, root)
    need_map(net, book, over, led)
    first = before(net, root)
    if first is None:
        found = _through_arrows(net, over, led)
    else:
        _need_between(net, first, root)
        found = _through_tie(net, over, part_of(net, first), book, led)
    if found is None:
        return "back", _way_back(net, over, book, led)
    return "through", found


def steps(net, root):
    """Tell the roots of the parts of a root's mesh, each once, rising."""
    return [step for step, _ in counts_of(net, mesh(net, root)[1])]


def _need_between(net, first, root):
    if not is_heap(net, tuple([x + y for x, y in zip(first, root)])):
        raise TooGreat("the heap of the mesh's book is none")


def _tie(net, over, under):
    """Tell a tie of a part over the one before it that isn't undone.

    Each tie is a sum of times of this one and one that is undone. The way out of what is tied by it
    has no way back, and every map into the part that has none goes through it.
    """
    return ties(net, over, under)[0]


def _through_arrows(net, over, led):
    """Tell by what a map comes through what the part's arrows hit, or None."""
    told = []
    for out, matrix in zip(arrows_hit(net, over)[1], led):
        word, found = solved(out, matrix, prime=net.prime)
        if word == "barred":
            return None
        told.append(found)
    return tuple(told)


def _through_tie(net, over, under, book, led):
    """Tell by what a map comes through the book tied of the part over the one before it, or None.

    It comes through by less h above it just where h undoes the tie, which the map leads to a tie of the book.
    """
    tie = _tie(net, over, under)
    moved = [product(matrix, led[begin], prime=net.prime) for matrix, (begin, end) in zip(tie, net.arrows)]
    word, found = held(net, book, under, tuple(moved))
    if word == "held":
        return None
    told = []
    for less, matrix in zip(found, led):
        told.append(above([times(-1, less, prime=net.prime), matrix], columns=matrix[1], prime=net.prime))
    return tuple(told)


def _way_back(net, over, book, led):
    """Tell a map of the part to the book that followed by this one, which has such a one, is ones.

    All maps of the part to itself are times of its ones: so one of the maps to the book comes to ones but for a number.
    """
    room = [many > 0 for many in over[0]].index(True)
    for way in maps(net, over, book):
        number = product(led[room], way[room], prime=net.prime)[2][0][0]
        if number:
            back = contrary(number, prime=net.prime)
            return tuple([times(back, matrix, prime=net.prime) for matrix in way])
