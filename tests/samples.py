"""Matrices and nets that the tests hand in, and reckonings of the tests' own to check by."""

import itertools
import random

from rootrooms.nets import Net
from tests.things import Refusals

SOME_PRIMES = [2, 3, 5, 31, 97]
SIZES = [(rows, columns) for rows in range(4) for columns in range(4)]


def chance_of(*seed):
    """Return a source of chance, the same for the same seed."""
    return random.Random(repr(seed))


# Matrices

def made(rows, columns, entry):
    """Return a matrix by what stands at each row and column."""
    return rows, columns, tuple(tuple(entry(i, k) for k in range(columns)) for i in range(rows))


def drawn(rows, columns, prime, seed=0):
    """Return a matrix by chance, the same for the same seed."""
    chance = chance_of(rows, columns, prime, seed)
    return made(rows, columns, lambda i, k: chance.choice([0, prime - 1, chance.randrange(prime)]))


def drawn_of_rank(rows, columns, rank, prime, seed=0):
    """Return a matrix by chance of at most this rank."""
    return times_by(drawn(rows, rank, prime, (seed, 1)), drawn(rank, columns, prime, (seed, 2)), prime)


def times_by(one, other, prime):
    """Return the product, reckoned number by number."""
    assert one[1] == other[0]
    return made(one[0], other[1], lambda i, k: sum(one[2][i][j] * other[2][j][k] for j in range(one[1])) % prime)


def rank_of(matrix, prime):
    """Return the rank, reckoned column by column downward."""
    lines = [list(row) for row in matrix[2]]
    rank = 0
    for column in range(matrix[1]):
        found = next((line for line in lines[rank:] if line[column]), None)
        if found is None:
            continue
        lines.remove(found)
        lines.insert(rank, found)
        back = pow(found[column], prime - 2, prime)
        for line in lines[rank + 1:]:
            many = line[column] * back
            line[:] = [(x - many * y) % prime for x, y in zip(line, found)]
        rank += 1
    return rank


def flipped_over(matrix):
    rows, columns, numbers = matrix
    return made(columns, rows, lambda i, k: numbers[k][i])


def stacked(one, other):
    """Return one above the other."""
    assert one[1] == other[1]
    return one[0] + other[0], one[1], one[2] + other[2]


def lined_up(one, other):
    """Return one beside the other."""
    return flipped_over(stacked(flipped_over(one), flipped_over(other)))


def unit(many):
    return made(many, many, lambda i, k: int(i == k))


def empty(rows, columns):
    return made(rows, columns, lambda i, k: 0)


def all_matrices(rows, columns, prime):
    """Return every matrix of this size."""
    lines = itertools.product(range(prime), repeat=columns)
    return [(rows, columns, numbers) for numbers in itertools.product(list(lines), repeat=rows)]


class MatrixChecks(Refusals):

    def told(self, matrix, expected, prime):
        """The matrix is made as the document tells, of tuples and whole numbers alone, and is the expected one."""
        self.assertEqual(matrix, expected)
        self.is_made(matrix, prime)

    def is_made(self, matrix, prime):
        """The matrix is made as the document tells, of tuples and whole numbers alone."""
        self.assertIs(type(matrix), tuple)
        rows, columns, numbers = matrix
        self.assertIs(type(numbers), tuple)
        for thing in [rows, columns, *(x for row in numbers for x in row)]:
            self.assertIs(type(thing), int)
        for row in numbers:
            self.assertIs(type(row), tuple)
            self.assertEqual(len(row), columns)
        self.assertEqual(len(numbers), rows)
        self.assertTrue(all(0 <= x < prime for row in numbers for x in row))


# Nets

def row(many):
    return [(k, k + 1) for k in range(many - 1)]


def fork(many):
    return row(many - 1) + [(many - 3, many - 1)]


def hand(many):
    return row(many - 1) + [(2, many - 1)]


def ring(many):
    return row(many) + [(many - 1, 0)]


def shuffled(rooms, arrows, prime=2, seed=0):
    """Return a net of these arrows, rooms, arrows and their ways shuffled."""
    chance = chance_of(rooms, arrows, seed)
    names = chance.sample(range(rooms), rooms)
    turned = [chance.choice([(names[a], names[b]), (names[b], names[a])]) for a, b in arrows]
    return Net(rooms, tuple(chance.sample(turned, len(turned))), prime=prime)


def side_by_side(*nets):
    """Return the rooms and arrows of these (rooms, arrows) beside one another."""
    arrows = []
    rooms = 0
    for many, some in nets:
        arrows += [(begin + rooms, end + rooms) for begin, end in some]
        rooms += many
    return rooms, arrows


# Of one piece each: its kind, its rooms, its arrows, these to be turned at will.
FEW_PIECES = [(("row", n), n, row(n)) for n in range(1, 9)]
FEW_PIECES += [(("fork", n), n, fork(n)) for n in range(4, 9)]
FEW_PIECES += [(("hand", n), n, hand(n)) for n in range(6, 9)]

# The same with an arrow or a room more.
MORE_PIECES = [(2, [(0, 1), (0, 1)]), (2, [(0, 1), (1, 0)]), (2, [(0, 1)] * 12)]
MORE_PIECES += [(n, ring(n)) for n in range(3, 9)]
MORE_PIECES += [
    (3, [(0, 1), (0, 1), (1, 2)]),
    (8, row(8) + [(3, 4)]),
    (8, hand(8) + [(0, 1)]),
    (5, fork(5) + [(0, 4)]),
    # four arms, and five
    (5, [(0, 1), (0, 2), (0, 3), (0, 4)]),
    (8, [(0, 1), (0, 2), (0, 3), (0, 4), (4, 5), (5, 6), (6, 7)]),
    (6, [(0, 1), (0, 2), (0, 3), (0, 4), (0, 5)]),
    (8, [(0, k) for k in range(1, 8)]),
    # two rooms of three arms
    (6, [(0, 2), (1, 2), (2, 3), (3, 4), (3, 5)]),
    (7, [(0, 2), (1, 2), (2, 3), (3, 4), (4, 5), (4, 6)]),
    (8, [(0, 2), (1, 2), (2, 3), (3, 4), (4, 5), (5, 6), (5, 7)]),
    (8, [(0, 2), (1, 2), (2, 3), (3, 4), (3, 5), (5, 6), (6, 7)]),
    # arms too long: 2, 2 and 2; 2, 2 and 3; 1, 3 and 3
    (7, [(0, 1), (1, 2), (0, 3), (3, 4), (0, 5), (5, 6)]),
    (8, [(0, 1), (1, 2), (0, 3), (3, 4), (0, 5), (5, 6), (6, 7)]),
    (8, [(0, 1), (0, 2), (2, 3), (3, 4), (0, 5), (5, 6), (6, 7)]),
    # all arrows that there may be
    (8, row(8) + [(0, 2), (0, 3), (0, 4), (0, 5), (0, 6)]),
    (4, [(a, b) for a in range(4) for b in range(4) if a != b]),
]


def drawn_net(seed):
    """Return a net by chance: many are trees or nearly so, for of the others nearly none is few."""
    chance = chance_of("net", seed)
    rooms = chance.randint(1, 8)
    prime = chance.choice(SOME_PRIMES)
    if rooms == 1:
        return Net(1, (), prime=prime)
    if chance.random() < 0.6:
        arrows = [(k, chance.choice([k - 1, k - 1, chance.randrange(k)])) for k in range(1, rooms)]
        arrows = chance.sample(arrows, chance.choice([rooms - 1, rooms - 1, max(rooms - 2, 1)]))
        arrows += [tuple(chance.sample(range(rooms), 2)) for _ in range(chance.choice([0, 0, 0, 1]))]
    else:
        arrows = [tuple(chance.sample(range(rooms), 2)) for _ in range(chance.randint(0, 12))]
    return shuffled(rooms, arrows, prime, seed)
