"""What maps of books kill, hit and leave, and what a book's arrows hit."""

from rootrooms.books import need_book, need_map
from rootrooms.lines import kills, least, solved
from rootrooms.matrices import beside, flipped, product


def killed(net, one, other, led):
    """Tell the book that a map of one book to another kills, and its way into the one."""
    _need_all(net, one, other, led)
    return _within(net, one, [kills(matrix, prime=net.prime) for matrix in led])


def hit(net, one, other, led):
    """Tell the book that a map of one book to another hits, and its way into the other."""
    _need_all(net, one, other, led)
    return _within(net, other, [_hit_by(matrix, net.prime) for matrix in led])


def left(net, one, other, led):
    """Tell the book that a map of one book to another leaves, and a way to it from the other."""
    _need_all(net, one, other, led)
    way = [_left_by(matrix, net.prime) for matrix in led]
    maps = []
    for (begin, end), matrix in zip(net.arrows, other[1]):
        right = product(way[end], matrix, prime=net.prime)
        over = _factor(flipped(way[begin], prime=net.prime), flipped(right, prime=net.prime), net.prime)
        maps.append(flipped(over, prime=net.prime))
    return (tuple([matrix[0] for matrix in way]), tuple(maps)), tuple(way)


def arrows_hit(net, book):
    """Tell the book that a book's arrows hit, and its way in."""
    need_book(net, book)
    heap, maps = book
    way = []
    for room in range(net.rooms):
        here = [matrix for arrow, matrix in zip(net.arrows, maps) if arrow[1] == room]
        way.append(_hit_by(beside(here, rows=heap[room], prime=net.prime), net.prime))
    return _within(net, book, way)


def _need_all(net, one, other, led):
    need_book(net, one)
    need_book(net, other)
    need_map(net, one, other, led)


def _within(net, book, way):
    """Tell the book that this way leads into the book, and the way.

    Each arrow leads the sums of times of the way's columns at its begin to such sums at its end.
    """
    maps = []
    for (begin, end), matrix in zip(net.arrows, book[1]):
        maps.append(_factor(way[end], product(matrix, way[begin], prime=net.prime), net.prime))
    return (tuple([matrix[1] for matrix in way]), tuple(maps)), tuple(way)


def _factor(one, right, prime):
    """Tell by what one, of columns of full rank, comes to right, sums of times of these columns."""
    return solved(one, right, prime=prime)[1]


def _hit_by(matrix, prime):
    """Tell columns of full rank of which just the sums of times of the matrix's columns are sums of times."""
    (rows, columns, numbers), leads = least(flipped(matrix, prime=prime), prime=prime)
    return flipped((len(leads), columns, numbers[:len(leads)]), prime=prime)


def _left_by(matrix, prime):
    """Tell rows of full rank, as many as the matrix has rows less its rank, by which it comes to noughts."""
    return flipped(kills(flipped(matrix, prime=prime), prime=prime), prime=prime)
