"""Books, maps and ties that the tests hand in, and reckonings of the tests' own to check by."""

import itertools

from rootrooms.books import is_book, is_map
from rootrooms.nets import Net
from tests.samples import (
    MatrixChecks, all_matrices, chance_of, drawn, drawn_of_rank, empty, flipped_over, made, rank_of, times_by, unit,
)
from tests.things import NO_MATRICES

def book_nets():
    """Return nets for books: few ones, rings, several arrows between two rooms, rooms without arrows."""
    nets = []
    for prime in [2, 3, 97]:
        nets += [
            Net(1, (), prime=prime),
            Net(3, (), prime=prime),
            Net(2, ((0, 1),), prime=prime),
            Net(3, ((0, 1), (2, 1)), prime=prime),
            Net(4, ((3, 0), (1, 3), (3, 2)), prime=prime),
            Net(2, ((0, 1), (0, 1), (1, 0)), prime=prime),
            Net(3, ((0, 1), (1, 2), (2, 0)), prime=prime),
            Net(5, ((4, 0), (2, 4), (4, 2), (2, 4), (1, 0)), prime=prime),
            Net(2, ((1, 0),) * 12, prime=prime),
        ]
    return nets


def arrow_sizes(net, one, other):
    """Return the sizes of a tie of a book of the one heap over one of the other."""
    return [(other[end], one[begin]) for begin, end in net.arrows]


def drawn_heap(net, most, seed=0):
    """Return a heap by chance, of so many in a room at most."""
    chance = chance_of("heap", net.rooms, net.arrows, most, seed)
    return tuple(chance.randint(0, most) for _ in range(net.rooms))


def drawn_book(net, heap, seed=0):
    """Return a book of this heap by chance, its matrices of all ranks."""
    chance = chance_of("book", net.arrows, net.prime, heap, seed)
    maps = []
    for at, (rows, columns) in enumerate(arrow_sizes(net, heap, heap)):
        rank = chance.choice([0, 1, 2, 12, 12])
        maps.append(drawn_of_rank(rows, columns, min(rank, rows, columns), net.prime, (seed, at)))
    return heap, tuple(maps)


def bare_book(net, heap):
    """Return the book of this heap whose matrices are noughts."""
    return heap, tuple(empty(rows, columns) for rows, columns in arrow_sizes(net, heap, heap))


def alone_book(net, room):
    """Return the book of 1 at this room, 0 else."""
    return bare_book(net, tuple(int(k == room) for k in range(net.rooms)))


def some_books(net, most=3, many=3):
    """Return books over the net: the nought book, one of noughts, and some by chance."""
    heaps = [drawn_heap(net, most, seed) for seed in range(many)]
    books = [bare_book(net, (0,) * net.rooms), bare_book(net, heaps[0])]
    return books + [drawn_book(net, heap, seed) for seed, heap in enumerate(heaps)]


def contrary_of(matrix, prime):
    """Return the contrary of a matrix that has one, reckoned from ones put beside it."""
    many = matrix[0]
    lines = [list(row) + list(more) for row, more in zip(matrix[2], unit(many)[2])]
    for k in range(many):
        found = next(line for line in lines[k:] if line[k])
        lines.remove(found)
        lines.insert(k, [x * pow(found[k], prime - 2, prime) % prime for x in found])
        for at in range(many):
            if at != k:
                lines[at] = [(x - lines[at][k] * y) % prime for x, y in zip(lines[at], lines[k])]
    return many, many, tuple(tuple(line[many:]) for line in lines)


def drawn_with_contrary(many, prime, seed=0):
    """Return a matrix by chance that has a contrary."""
    tries = (drawn(many, many, prime, ("contrary", seed, k)) for k in itertools.count())
    return next(one for one in tries if rank_of(one, prime) == many)


def mixed_book(net, book, seed=0):
    """Return another book and a map of this one to it that has a contrary."""
    way = tuple(drawn_with_contrary(many, net.prime, (seed, room)) for room, many in enumerate(book[0]))
    maps = []
    for (begin, end), matrix in zip(net.arrows, book[1]):
        back = contrary_of(way[begin], net.prime)
        maps.append(times_by(times_by(way[end], matrix, net.prime), back, net.prime))
    return (book[0], tuple(maps)), way


def is_map_of(net, one, other, thing):
    """Tell of matrices of due sizes whether they are a map, reckoned number by number."""
    for arrow, (begin, end) in enumerate(net.arrows):
        if times_by(other[1][arrow], thing[begin], net.prime) != times_by(thing[end], one[1][arrow], net.prime):
            return False
    return True


def all_maps(net, one, other):
    """Return every map of a small book to another, found by going through all matrices."""
    choices = [all_matrices(rows, columns, net.prime) for rows, columns in zip(other[0], one[0])]
    return [thing for thing in itertools.product(*choices) if is_map_of(net, one, other, thing)]


def nought_map(one, other):
    """Return the map of noughts."""
    return tuple(empty(rows, columns) for rows, columns in zip(other[0], one[0]))


def ones_map(book):
    """Return the map of ones of a book to itself."""
    return tuple(unit(many) for many in book[0])


def changed(matrices, at, row, column, prime):
    """Return the tuple of matrices with one number otherwise."""
    rows, columns, numbers = matrices[at]
    matrix = made(rows, columns, lambda i, k: (numbers[i][k] + ((i, k) == (row, column))) % prime)
    return matrices[:at] + (matrix,) + matrices[at + 1:]


def otherwise(matrices, prime):
    """Return this tuple of matrices with one thing otherwise, so that it is none of the sizes due by the prime."""
    found = [list(matrices), matrices + (empty(1, 1),), matrices + ((),), (empty(0, 0),) + matrices, (matrices,)]
    if matrices:
        found += [matrices[:-1], matrices[1:], ()]
    for at, (rows, columns, numbers) in enumerate(matrices):
        wrong = [
            None, numbers, [rows, columns, numbers], (rows, columns), (rows, columns, list(numbers), ()),
            (rows, columns, numbers + (numbers[0] if numbers else (0,) * columns,)),
            (rows + 1, columns, numbers + ((0,) * columns,)),
            (rows, columns + 1, tuple(line + (0,) for line in numbers)),
            (rows + 1, columns, numbers), (rows, columns + 1, numbers), (rows, columns, list(numbers)),
        ]
        if rows:
            wrong += [(rows - 1, columns, numbers[1:]), (rows, columns, numbers[1:]),
                      (rows, columns, (list(numbers[0]),) + numbers[1:])]
        if columns:
            wrong.append((rows, columns - 1, tuple(line[1:] for line in numbers)))
        if rows and columns:
            for number in [prime, -1, True, False, None, "1", (1,)]:
                wrong.append((rows, columns, ((number,) + numbers[0][1:],) + numbers[1:]))
                wrong.append((rows, columns, numbers[:-1] + (numbers[-1][:-1] + (number,),)))
        if rows != columns:
            wrong.append(flipped_over((rows, columns, numbers)))
        if (rows, columns) == (1, 1):
            wrong += [(True, 1, numbers), (1, True, numbers)]
        found += [matrices[:at] + (matrix,) + matrices[at + 1:] for matrix in wrong]
    return found


# Ties

def undone_by(net, over, under, h):
    """Return the tie that h undoes, reckoned number by number."""
    tie = []
    for arrow, (begin, end) in enumerate(net.arrows):
        one = times_by(under[1][arrow], h[begin], net.prime)
        other = times_by(h[end], over[1][arrow], net.prime)
        tie.append(made(one[0], one[1], lambda i, k: (one[2][i][k] - other[2][i][k]) % net.prime))
    return tuple(tie)


def single_ones(sizes):
    """Return each tuple of matrices of these sizes with 1 at one place, 0 else."""
    found = []
    for at, (rows, columns) in enumerate(sizes):
        for row, column in itertools.product(range(rows), range(columns)):
            found.append(tuple(
                made(*size, lambda i, k: int((place, i, k) == (at, row, column))) for place, size in enumerate(sizes)))
    return found


def all_undone(net, over, under):
    """Return ties of which all that are undone are sums of times."""
    return [undone_by(net, over, under, h) for h in single_ones(list(zip(under[0], over[0])))]


def in_a_row(matrices):
    return [x for matrix in matrices for line in matrix[2] for x in line]


def rank_of_all(things, prime):
    """Return how many of these tuples of matrices are no sums of times of those before."""
    lines = tuple(tuple(in_a_row(thing)) for thing in things)
    return rank_of((len(lines), len(lines[0]) if lines else 0, lines), prime)


def summed(things, sizes, prime, seed=0):
    """Return a sum of times, by chance, of tuples of matrices of these sizes."""
    chance = chance_of("sum", len(things), sizes, seed)
    many = [chance.randrange(prime) for _ in things]
    return tuple(
        made(*size, lambda i, k: sum(x * thing[at][2][i][k] for x, thing in zip(many, things)) % prime)
        for at, size in enumerate(sizes))


def drawn_tie(net, over, under, seed=0):
    """Return a tie by chance."""
    return tuple(drawn(rows, columns, net.prime, ("tie", seed, at))
                 for at, (rows, columns) in enumerate(arrow_sizes(net, over[0], under[0])))


def form_of(net, one, other):
    """Return the form of two heaps."""
    return sum(map(int.__mul__, one, other)) - sum(one[begin] * other[end] for begin, end in net.arrows)


# What is no book, and checks of what is one

NET = Net(3, ((0, 1), (2, 1), (0, 1), (2, 0)), prime=5)
BOOK = ((2, 1, 1), ((1, 2, ((1, 2),)), (1, 1, ((4,),)), (1, 2, ((0, 3),)), (2, 1, ((2,), (0,)))))


def no_books(net, book):
    """Return what differs from this book by one thing, and anything else that is no book over the net."""
    heap, maps = book
    found = [(heap, wrong) for wrong in otherwise(maps, net.prime)]
    heaps = [list(heap), heap + (0,), heap[1:], (13,) + heap[1:], (-1,) + heap[1:], (True,) + heap[1:]]
    heaps += [None, 0, "abc", ()]
    found += [(wrong, maps) for wrong in heaps]
    for room in range(net.rooms):
        # A heap that the matrices don't fit.
        if any(room in arrow for arrow in net.arrows):
            found.append((heap[:room] + (heap[room] + 1,) + heap[room + 1:], maps))
    found += [[heap, maps], (heap,), (maps,), (maps, heap), (heap, maps, ()), (heap, maps, None), ((heap, maps),)]
    return found + NO_MATRICES


# Things that are no book over NET nor, but for a few nets, over any other one.
NO_BOOKS = no_books(NET, BOOK)


class BookChecks(MatrixChecks):

    def is_made_book(self, net, book):
        """The book is one over the net, made of tuples and whole numbers alone."""
        self.assertIs(is_book(net, book), True)
        heap, maps = book
        for thing in [book, heap, maps]:
            self.assertIs(type(thing), tuple)
        for number in heap:
            self.assertIs(type(number), int)
        self.assertEqual([matrix[:2] for matrix in maps], arrow_sizes(net, heap, heap))
        for matrix in maps:
            self.is_made(matrix, net.prime)

    def is_made_map(self, net, one, other, thing):
        """The thing is a map of one to other, made of tuples and whole numbers alone."""
        self.assertIs(type(thing), tuple)
        self.assertEqual([matrix[:2] for matrix in thing], list(zip(other[0], one[0])))
        for matrix in thing:
            self.is_made(matrix, net.prime)
        self.assertTrue(is_map_of(net, one, other, thing))
        self.assertIs(is_map(net, one, other, thing), True)
