"""How many maps with a contrary, books, sub-books and ties there are, by counts."""

from rootrooms.between import maps
from rootrooms.books import arrow_sizes, need_book, room_sizes
from rootrooms.cuts import left
from rootrooms.errors import NoFit, TooMany
from rootrooms.falls import alones
from rootrooms.lines import least
from rootrooms.matrices import flipped
from rootrooms.nets import need_few
from rootrooms.parted import maps_counted, ties_counted
from rootrooms.parts import book_of, counts_of, heap_counted, need_counts
from rootrooms.ties import tied, ties
from rootrooms.undoing import laid_out, set_up

MOST_GONE_THROUGH = 2000


def many_selves(net, counts):
    """Tell how many maps of the counts' book to itself have a contrary."""
    need_few(net)
    need_counts(net, counts)
    return _selves(net, counts)


def many_alike(net, counts):
    """Tell how many books over the net are alike the counts' book.

    A matrix with a contrary at each room makes of the book one that is alike, and as many choices of
    these make the same one as the book has maps to itself with a contrary.
    """
    need_few(net)
    need_counts(net, counts)
    choices = 1
    for many in heap_counted(net, counts):
        choices *= _with_contrary(many, net.prime)
    return choices // _selves(net, counts)


def many_under(net, book, top, under):
    """Tell how many sub-books of a book are alike under's book, with the rest alike top's."""
    need_few(net)
    need_book(net, book)
    need_counts(net, top)
    need_counts(net, under)
    _need_fit(net, book[0], top, under)
    _need_not_many(net, maps_counted(net, under, counts_of(net, book)))
    wanted = alones(net, book_of(net, top))
    under_book = book_of(net, under)
    rests = {}
    many = 0
    for way in _ways_in(net, under_book, book):
        rest = left(net, under_book, book, way)[0]
        # Many sub-books may leave the same rest.
        if rest not in rests:
            rests[rest] = alones(net, rest) == wanted
        if rests[rest]:
            many += 1
    return many


def many_tied(net, whole, top, under):
    """Tell how many ties of top's book over under's, but for undone ones, have a tied book alike whole's."""
    need_few(net)
    need_counts(net, whole)
    need_counts(net, top)
    need_counts(net, under)
    _need_fit(net, heap_counted(net, whole), top, under)
    _need_not_many(net, ties_counted(net, top, under))
    wanted = alones(net, book_of(net, whole))
    over, below = book_of(net, top), book_of(net, under)
    sizes = arrow_sizes(net, over[0], below[0])
    many = 0
    for times, numbers in _sums(ties(net, over, below), sizes, net.prime):
        if alones(net, tied(net, over, below, set_up(sizes, numbers))[0]) == wanted:
            many += times
    return many


def _selves(net, counts):
    """Tell how many maps with a contrary there are of what is counts to itself.

    A map has one where, for each root, what it leads of the root's parts to these has one, all else being any.
    """
    many = maps_counted(net, counts, counts) - sum([many * many for _, many in counts])
    told = _power(net.prime, many)
    for _, many in counts:
        told *= _with_contrary(many, net.prime)
    return told


def _with_contrary(many, prime):
    """Tell how many matrices of this size have a contrary: each row is none of the sums of times of those above."""
    told = 1
    for k in range(many):
        told *= _power(prime, many) - _power(prime, k)
    return told


def _power(prime, many):
    told = 1
    for _ in range(many):
        told *= prime
    return told


def _need_fit(net, heap, top, under):
    if heap != heap_counted(net, top + under):
        raise NoFit("the heaps of top and under don't add up")


def _need_not_many(net, many):
    if _power(net.prime, many) > MOST_GONE_THROUGH:
        raise TooMany("there are more than 2000 to go through")


def _ways_in(net, under, book):
    """Tell for each sub-book alike the under book a map of this one to the book that hits it and kills nothing."""
    sizes = room_sizes(under[0], book[0])
    told = {}
    for _, numbers in _sums(maps(net, under, book), sizes, net.prime):
        way = set_up(sizes, numbers)
        least_ones = [least(flipped(matrix, prime=net.prime), prime=net.prime) for matrix in way]
        if [len(leads) for _, leads in least_ones] == list(under[0]):
            told[tuple([one for one, _ in least_ones])] = way
    return list(told.values())


def _sums(things, sizes, prime):
    """Tell the sums of times of these tuples of matrices, laid out, each with how many times of it there are.

    Of the times of a sum, but noughts, there stands the one whose first number of times but 0 is 1:
    times of a map hit the same, and times of a tie have tied books that are alike.
    """
    told = [(1, [0] * sum([rows * columns for rows, columns in sizes]))]
    lines = [laid_out(thing) for thing in things]
    for at, line in enumerate(lines):
        sums = [line]
        for other in lines[at + 1:]:
            sums = [[(x + many * y) % prime for x, y in zip(one, other)] for one in sums for many in range(prime)]
        told = told + [(prime - 1, one) for one in sums]
    return told
