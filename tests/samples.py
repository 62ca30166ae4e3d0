"""Matrices, nets and books that the tests hand in, and reckonings of the tests' own to check by."""

import itertools
import random

from rootrooms.nets import Net
from tests.things import Refusals

SOME_PRIMES = [2, 3, 5, 31, 97]
SIZES = [(rows, columns) for rows in range(4) for columns in range(4)]


def chance_of(*seed):
    """Return a source of chance, the same for the same seed."""
    return random.Random(repr(seed))


# Matrices

def made(rows, columns, entry):
    """Return a matrix by what stands at each row and column."""
    return rows, columns, tuple(tuple(entry(i, k) for k in range(columns)) for i in range(rows))


def drawn(rows, columns, prime, seed=0):
    """Return a matrix by chance, the same for the same seed."""
    chance = chance_of(rows, columns, prime, seed)
    return made(rows, columns, lambda i, k: chance.choice([0, prime - 1, chance.randrange(prime)]))


def drawn_of_rank(rows, columns, rank, prime, seed=0):
    """Return a matrix by chance of at most this rank."""
    return times_by(drawn(rows, rank, prime, (seed, 1)), drawn(rank, columns, prime, (seed, 2)), prime)


def times_by(one, other, prime):
    """Return the product, reckoned number by number."""
    assert one[1] == other[0]
    return made(one[0], other[1], lambda i, k: sum(one[2][i][j] * other[2][j][k] for j in range(one[1])) % prime)


def rank_of(matrix, prime):
    """Return the rank, reckoned column by column downward."""
    lines = [list(row) for row in matrix[2]]
    rank = 0
    for column in range(matrix[1]):
        found = next((line for line in lines[rank:] if line[column]), None)
        if found is None:
            continue
        lines.remove(found)
        lines.insert(rank, found)
        back = pow(found[column], prime - 2, prime)
        for line in lines[rank + 1:]:
            many = line[column] * back
            line[:] = [(x - many * y) % prime for x, y in zip(line, found)]
        rank += 1
    return rank


def flipped_over(matrix):
    rows, columns, numbers = matrix
    return made(columns, rows, lambda i, k: numbers[k][i])


def stacked(one, other):
    """Return one above the other."""
    assert one[1] == other[1]
    return one[0] + other[0], one[1], one[2] + other[2]


def lined_up(one, other):
    """Return one beside the other."""
    return flipped_over(stacked(flipped_over(one), flipped_over(other)))


def unit(many):
    return made(many, many, lambda i, k: int(i == k))


def empty(rows, columns):
    return made(rows, columns, lambda i, k: 0)


def all_matrices(rows, columns, prime):
    """Return every matrix of this size."""
    lines = itertools.product(range(prime), repeat=columns)
    return [(rows, columns, numbers) for numbers in itertools.product(list(lines), repeat=rows)]


class MatrixChecks(Refusals):

    def told(self, matrix, expected, prime):
        """The matrix is made as the document tells, of tuples and whole numbers alone, and is the expected one."""
        self.assertEqual(matrix, expected)
        self.is_made(matrix, prime)

    def is_made(self, matrix, prime):
        """The matrix is made as the document tells, of tuples and whole numbers alone."""
        self.assertIs(type(matrix), tuple)
        rows, columns, numbers = matrix
        self.assertIs(type(numbers), tuple)
        for thing in [rows, columns, *(x for row in numbers for x in row)]:
            self.assertIs(type(thing), int)
        for row in numbers:
            self.assertIs(type(row), tuple)
            self.assertEqual(len(row), columns)
        self.assertEqual(len(numbers), rows)
        self.assertTrue(all(0 <= x < prime for row in numbers for x in row))


# Nets

def row(many):
    return [(k, k + 1) for k in range(many - 1)]


def fork(many):
    return row(many - 1) + [(many - 3, many - 1)]


def hand(many):
    return row(many - 1) + [(2, many - 1)]


def ring(many):
    return row(many) + [(many - 1, 0)]


def shuffled(rooms, arrows, prime=2, seed=0):
    """Return a net of these arrows, rooms, arrows and their ways shuffled."""
    chance = chance_of(rooms, arrows, seed)
    names = chance.sample(range(rooms), rooms)
    turned = [chance.choice([(names[a], names[b]), (names[b], names[a])]) for a, b in arrows]
    return Net(rooms, tuple(chance.sample(turned, len(turned))), prime=prime)


def side_by_side(*nets):
    """Return the rooms and arrows of these (rooms, arrows) beside one another."""
    arrows = []
    rooms = 0
    for many, some in nets:
        arrows += [(begin + rooms, end + rooms) for begin, end in some]
        rooms += many
    return rooms, arrows


# Of one piece each: its kind, its rooms, its arrows, these to be turned at will.
FEW_PIECES = [(("row", n), n, row(n)) for n in range(1, 9)]
FEW_PIECES += [(("fork", n), n, fork(n)) for n in range(4, 9)]
FEW_PIECES += [(("hand", n), n, hand(n)) for n in range(6, 9)]

# The same with an arrow or a room more.
MORE_PIECES = [(2, [(0, 1), (0, 1)]), (2, [(0, 1), (1, 0)]), (2, [(0, 1)] * 12)]
MORE_PIECES += [(n, ring(n)) for n in range(3, 9)]
MORE_PIECES += [
    (3, [(0, 1), (0, 1), (1, 2)]),
    (8, row(8) + [(3, 4)]),
    (8, hand(8) + [(0, 1)]),
    (5, fork(5) + [(0, 4)]),
    # four arms, and five
    (5, [(0, 1), (0, 2), (0, 3), (0, 4)]),
    (8, [(0, 1), (0, 2), (0, 3), (0, 4), (4, 5), (5, 6), (6, 7)]),
    (6, [(0, 1), (0, 2), (0, 3), (0, 4), (0, 5)]),
    (8, [(0, k) for k in range(1, 8)]),
    # two rooms of three arms
    (6, [(0, 2), (1, 2), (2, 3), (3, 4), (3, 5)]),
    (7, [(0, 2), (1, 2), (2, 3), (3, 4), (4, 5), (4, 6)]),
    (8, [(0, 2), (1, 2), (2, 3), (3, 4), (4, 5), (5, 6), (5, 7)]),
    (8, [(0, 2), (1, 2), (2, 3), (3, 4), (3, 5), (5, 6), (6, 7)]),
    # arms too long: 2, 2 and 2; 2, 2 and 3; 1, 3 and 3
    (7, [(0, 1), (1, 2), (0, 3), (3, 4), (0, 5), (5, 6)]),
    (8, [(0, 1), (1, 2), (0, 3), (3, 4), (0, 5), (5, 6), (6, 7)]),
    (8, [(0, 1), (0, 2), (2, 3), (3, 4), (0, 5), (5, 6), (6, 7)]),
    # all arrows that there may be
    (8, row(8) + [(0, 2), (0, 3), (0, 4), (0, 5), (0, 6)]),
    (4, [(a, b) for a in range(4) for b in range(4) if a != b]),
]


def drawn_net(seed):
    """Return a net by chance: many are trees or nearly so, for of the others nearly none is few."""
    chance = chance_of("net", seed)
    rooms = chance.randint(1, 8)
    prime = chance.choice(SOME_PRIMES)
    if rooms == 1:
        return Net(1, (), prime=prime)
    if chance.random() < 0.6:
        arrows = [(k, chance.choice([k - 1, k - 1, chance.randrange(k)])) for k in range(1, rooms)]
        arrows = chance.sample(arrows, chance.choice([rooms - 1, rooms - 1, max(rooms - 2, 1)]))
        arrows += [tuple(chance.sample(range(rooms), 2)) for _ in range(chance.choice([0, 0, 0, 1]))]
    else:
        arrows = [tuple(chance.sample(range(rooms), 2)) for _ in range(chance.randint(0, 12))]
    return shuffled(rooms, arrows, prime, seed)


# Books and maps

def book_nets():
    """Return nets for books: few ones, rings, several arrows between two rooms, rooms without arrows."""
    nets = []
    for prime in [2, 3, 97]:
        nets += [
            Net(1, (), prime=prime),
            Net(3, (), prime=prime),
            Net(2, ((0, 1),), prime=prime),
            Net(3, ((0, 1), (2, 1)), prime=prime),
            Net(4, ((3, 0), (1, 3), (3, 2)), prime=prime),
            Net(2, ((0, 1), (0, 1), (1, 0)), prime=prime),
            Net(3, ((0, 1), (1, 2), (2, 0)), prime=prime),
            Net(5, ((4, 0), (2, 4), (4, 2), (2, 4), (1, 0)), prime=prime),
            Net(2, ((1, 0),) * 12, prime=prime),
        ]
    return nets


def arrow_sizes(net, one, other):
    """Return the sizes of a tie of a book of the one heap over one of the other."""
    return [(other[end], one[begin]) for begin, end in net.arrows]


def drawn_heap(net, most, seed=0):
    """Return a heap by chance, of so many in a room at most."""
    chance = chance_of("heap", net.rooms, net.arrows, most, seed)
    return tuple(chance.randint(0, most) for _ in range(net.rooms))


def drawn_book(net, heap, seed=0):
    """Return a book of this heap by chance, its matrices of all ranks."""
    chance = chance_of("book", net.arrows, net.prime, heap, seed)
    maps = []
    for at, (rows, columns) in enumerate(arrow_sizes(net, heap, heap)):
        rank = chance.choice([0, 1, 2, 12, 12])
        maps.append(drawn_of_rank(rows, columns, min(rank, rows, columns), net.prime, (seed, at)))
    return heap, tuple(maps)


def bare_book(net, heap):
    """Return the book of this heap whose matrices are noughts."""
    return heap, tuple(empty(rows, columns) for rows, columns in arrow_sizes(net, heap, heap))


def some_books(net, most=3, many=3):
    """Return books over the net: the nought book, one of noughts, and some by chance."""
    heaps = [drawn_heap(net, most, seed) for seed in range(many)]
    books = [bare_book(net, (0,) * net.rooms), bare_book(net, heaps[0])]
    return books + [drawn_book(net, heap, seed) for seed, heap in enumerate(heaps)]


def contrary_of(matrix, prime):
    """Return the contrary of a matrix that has one, reckoned from ones put beside it."""
    many = matrix[0]
    lines = [list(row) + list(more) for row, more in zip(matrix[2], unit(many)[2])]
    for k in range(many):
        found = next(line for line in lines[k:] if line[k])
        lines.remove(found)
        lines.insert(k, [x * pow(found[k], prime - 2, prime) % prime for x in found])
        for at in range(many):
            if at != k:
                lines[at] = [(x - lines[at][k] * y) % prime for x, y in zip(lines[at], lines[k])]
    return many, many, tuple(tuple(line[many:]) for line in lines)


def drawn_with_contrary(many, prime, seed=0):
    """Return a matrix by chance that has a contrary."""
    tries = (drawn(many, many, prime, ("contrary", seed, k)) for k in itertools.count())
    return next(one for one in tries if rank_of(one, prime) == many)


def mixed_book(net, book, seed=0):
    """Return another book and a map of this one to it that has a contrary."""
    way = tuple(drawn_with_contrary(many, net.prime, (seed, room)) for room, many in enumerate(book[0]))
    maps = []
    for (begin, end), matrix in zip(net.arrows, book[1]):
        back = contrary_of(way[begin], net.prime)
        maps.append(times_by(times_by(way[end], matrix, net.prime), back, net.prime))
    return (book[0], tuple(maps)), way


def is_map_of(net, one, other, thing):
    """Tell of matrices of due sizes whether they are a map, reckoned number by number."""
    for arrow, (begin, end) in enumerate(net.arrows):
        if times_by(other[1][arrow], thing[begin], net.prime) != times_by(thing[end], one[1][arrow], net.prime):
            return False
    return True


def all_maps(net, one, other):
    """Return every map of a small book to another, found by going through all matrices."""
    choices = [all_matrices(rows, columns, net.prime) for rows, columns in zip(other[0], one[0])]
    return [thing for thing in itertools.product(*choices) if is_map_of(net, one, other, thing)]


def nought_map(one, other):
    """Return the map of noughts."""
    return tuple(empty(rows, columns) for rows, columns in zip(other[0], one[0]))


def ones_map(book):
    """Return the map of ones of a book to itself."""
    return tuple(unit(many) for many in book[0])


def changed(matrices, at, row, column, prime):
    """Return the tuple of matrices with one number otherwise."""
    rows, columns, numbers = matrices[at]
    matrix = made(rows, columns, lambda i, k: (numbers[i][k] + ((i, k) == (row, column))) % prime)
    return matrices[:at] + (matrix,) + matrices[at + 1:]


def otherwise(matrices, prime):
    """Return this tuple of matrices with one thing otherwise, so that it is none of the sizes due by the prime."""
    found = [list(matrices), matrices + (empty(1, 1),), matrices + ((),), (empty(0, 0),) + matrices, (matrices,)]
    if matrices:
        found += [matrices[:-1], matrices[1:], ()]
    for at, (rows, columns, numbers) in enumerate(matrices):
        wrong = [
            None, numbers, [rows, columns, numbers], (rows, columns), (rows, columns, list(numbers), ()),
            (rows, columns, numbers + (numbers[0] if numbers else (0,) * columns,)),
            (rows + 1, columns, numbers + ((0,) * columns,)),
            (rows, columns + 1, tuple(line + (0,) for line in numbers)),
            (rows + 1, columns, numbers), (rows, columns + 1, numbers), (rows, columns, list(numbers)),
        ]
        if rows:
            wrong += [(rows - 1, columns, numbers[1:]), (rows, columns, numbers[1:]),
                      (rows, columns, (list(numbers[0]),) + numbers[1:])]
        if columns:
            wrong.append((rows, columns - 1, tuple(line[1:] for line in numbers)))
        if rows and columns:
            for number in [prime, -1, True, False, None, "1", (1,)]:
                wrong.append((rows, columns, ((number,) + numbers[0][1:],) + numbers[1:]))
                wrong.append((rows, columns, numbers[:-1] + (numbers[-1][:-1] + (number,),)))
        if rows != columns:
            wrong.append(flipped_over((rows, columns, numbers)))
        if (rows, columns) == (1, 1):
            wrong += [(True, 1, numbers), (1, True, numbers)]
        found += [matrices[:at] + (matrix,) + matrices[at + 1:] for matrix in wrong]
    return found
