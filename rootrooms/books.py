"""Books over nets, and maps of one book to another."""

from rootrooms.errors import NoBook, NoMap, TooGreat
from rootrooms.lines import undo
from rootrooms.matrices import above, beside, is_matrix, noughts, ones, product
from rootrooms.nets import is_heap, need_room, single


def is_book(net, thing):
    """Tell of anything whether it is a book over the net."""
    if not isinstance(thing, tuple) or len(thing) != 2 or not is_heap(net, thing[0]):
        return False
    return are_sized(thing[1], arrow_sizes(net, thing[0], thing[0]), net.prime)


def is_map(net, one, other, thing):
    """Tell of anything whether it is a map of one book to another."""
    need_book(net, one)
    need_book(net, other)
    return _is_map(net, one, other, thing)


def need_book(net, thing):
    """Refuse what is no book over the net."""
    if not is_book(net, thing):
        raise NoBook("a book over the net is due")


def need_map(net, one, other, thing):
    """Refuse what is no map of one of these books to the other."""
    if not _is_map(net, one, other, thing):
        raise NoMap("a map of the one book to the other is due")


def nought_book(net):
    """Tell the book whose heap is noughts."""
    return _bare(net, (0,) * net.rooms)


def alone(net, room):
    """Tell the book of 1 at this room, 0 else."""
    need_room(net, room)
    return _bare(net, single(net, room))


def joined(net, books):
    """Tell the joined book of books in their order."""
    if not isinstance(books, list):
        raise NoBook("a list of books is due")
    for thing in books:
        need_book(net, thing)
    heap = tuple([sum([book[0][room] for book in books]) for room in range(net.rooms)])
    if not is_heap(net, heap):
        raise TooGreat("the heaps of the books come to no heap")
    maps = []
    for arrow in range(len(net.arrows)):
        maps.append(_joined_matrix([book[1][arrow] for book in books], net.prime))
    return heap, tuple(maps)


def followed(net, one, other, third, first, second):
    """Tell the map of one to third: first, of one to other, followed by second, of other to third."""
    need_book(net, one)
    need_book(net, other)
    need_book(net, third)
    need_map(net, one, other, first)
    need_map(net, other, third, second)
    return led_on(net, first, second)


def ones_of(net, book):
    """Tell a book's map of ones to itself."""
    need_book(net, book)
    return tuple([ones(many) for many in book[0]])


def undone(net, one, other, led):
    """Tell the contrary of a map of one book to another, or None."""
    need_book(net, one)
    need_book(net, other)
    need_map(net, one, other, led)
    back = [undo(matrix, prime=net.prime) for matrix in led]
    if None in back:
        return None
    return tuple(back)


def led_on(net, first, second):
    """Tell room by room the second map's matrix behind the first one's."""
    return tuple([product(then, led, prime=net.prime) for led, then in zip(first, second)])


def room_sizes(one, other):
    """Tell for each room how many rows the other heap gives, and how many columns the one."""
    return list(zip(other, one))


def arrow_sizes(net, one, other):
    """Tell for each arrow how many rows the other heap gives at its end, and how many columns the one at its begin."""
    return [(other[end], one[begin]) for begin, end in net.arrows]


def are_sized(thing, sizes, prime):
    """Tell of anything whether it is a tuple of matrices of these sizes, in order."""
    if not isinstance(thing, tuple) or len(thing) != len(sizes):
        return False
    if not all([is_matrix(matrix, prime=prime) for matrix in thing]):
        return False
    return [matrix[:2] for matrix in thing] == sizes


def _is_map(net, one, other, thing):
    if not are_sized(thing, room_sizes(one[0], other[0]), net.prime):
        return False
    for arrow, (begin, end) in enumerate(net.arrows):
        led_then_along = product(other[1][arrow], thing[begin], prime=net.prime)
        if led_then_along != product(thing[end], one[1][arrow], prime=net.prime):
            return False
    return True


def _bare(net, heap):
    """Tell the book of this heap whose matrices are noughts."""
    return heap, tuple([noughts(rows, columns) for rows, columns in arrow_sizes(net, heap, heap)])


def _joined_matrix(matrices, prime):
    """Tell the matrix that has these ones, one below the other to the right, noughts else."""
    columns = sum([matrix[1] for matrix in matrices])
    bands = []
    before = 0
    for rows, many, numbers in matrices:
        left = noughts(rows, before)
        right = noughts(rows, columns - before - many)
        bands.append(beside([left, (rows, many, numbers), right], rows=rows, prime=prime))
        before += many
    return above(bands, columns=columns, prime=prime)
