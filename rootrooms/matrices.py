"""Matrices by a prime: tuples (rows, columns, numbers)."""

from rootrooms.errors import NoFit, NoMatrix, NoNumber
from rootrooms.rests import need_prime
from rootrooms.wholes import is_whole, is_whole_to

MOST_ROWS = 2000


def is_matrix(thing, *, prime):
    """Tell of anything whether it is a matrix by the prime."""
    need_prime(prime)
    return _is_made(thing, prime)


def need_matrix(thing, prime):
    """Refuse what is no matrix by the prime."""
    if not _is_made(thing, prime):
        raise NoMatrix("a matrix by the prime is due")


def product(one, other, *, prime):
    """Tell the product of two matrices."""
    need_prime(prime)
    need_matrix(one, prime)
    need_matrix(other, prime)
    rows, between, numbers = one
    others, columns, below = other
    if between != others:
        raise NoFit("the one's columns are not as many as the other's rows")
    return rows, columns, tuple([_combined(row, below, columns, prime) for row in numbers])


def plus(one, other, *, prime):
    """Tell the sum of two matrices of one size."""
    need_prime(prime)
    need_matrix(one, prime)
    need_matrix(other, prime)
    if one[:2] != other[:2]:
        raise NoFit("the two are not of one size")
    rows, columns, numbers = one
    return rows, columns, tuple([_sum(row, line, prime) for row, line in zip(numbers, other[2])])


def times(number, one, *, prime):
    """Tell so many times a matrix."""
    need_prime(prime)
    if not is_whole(number):
        raise NoNumber("a whole number is due")
    need_matrix(one, prime)
    # The number may be very long: it is taken by the prime once, not at each place.
    rest = number % prime
    rows, columns, numbers = one
    return rows, columns, tuple([tuple([rest * x % prime for x in row]) for row in numbers])


def flipped(one, *, prime):
    """Tell the matrix turned over, rows for columns."""
    need_prime(prime)
    need_matrix(one, prime)
    rows, columns, numbers = one
    return columns, rows, tuple([tuple([row[k] for row in numbers]) for k in range(columns)])


def beside(matrices, *, rows, prime):
    """Tell matrices of so many rows beside one another, from left to right."""
    need_prime(prime)
    _need_matrices(matrices, prime)
    _need_size(rows)
    if any([one[0] != rows for one in matrices]):
        raise NoFit("a matrix has other than so many rows")
    columns = _total([one[1] for one in matrices])
    lines = [tuple([x for one in matrices for x in one[2][k]]) for k in range(rows)]
    return rows, columns, tuple(lines)


def above(matrices, *, columns, prime):
    """Tell matrices of so many columns above one another, from top to bottom."""
    need_prime(prime)
    _need_matrices(matrices, prime)
    _need_size(columns)
    if any([one[1] != columns for one in matrices]):
        raise NoFit("a matrix has other than so many columns")
    rows = _total([one[0] for one in matrices])
    return rows, columns, tuple([row for one in matrices for row in one[2]])


def ones(many):
    """Tell the matrix of 1 where row and column are one, 0 else."""
    _need_size(many)
    lines = [tuple([1 if k == row else 0 for k in range(many)]) for row in range(many)]
    return many, many, tuple(lines)


def noughts(rows, columns):
    """Tell the matrix of 0 everywhere."""
    _need_size(rows)
    _need_size(columns)
    return rows, columns, ((0,) * columns,) * rows


def _is_made(thing, prime):
    if not isinstance(thing, tuple) or len(thing) != 3:
        return False
    rows, columns, numbers = thing
    if not is_whole_to(rows, MOST_ROWS) or not is_whole_to(columns, MOST_ROWS):
        return False
    if not isinstance(numbers, tuple) or len(numbers) != rows:
        return False
    return all([_is_row(row, columns, prime) for row in numbers])


def _is_row(thing, columns, prime):
    if not isinstance(thing, tuple) or len(thing) != columns:
        return False
    return all([is_whole_to(x, prime - 1) for x in thing])


def _need_matrices(things, prime):
    if not isinstance(things, list):
        raise NoMatrix("a list of matrices is due")
    for thing in things:
        need_matrix(thing, prime)


def _need_size(thing):
    if not is_whole_to(thing, MOST_ROWS):
        raise NoFit("a whole number from 0 to 2000 is due")


def _total(sizes):
    many = sum(sizes)
    if many > MOST_ROWS:
        raise NoFit("what is told would have more than 2000 rows or columns")
    return many


def _combined(row, lines, columns, prime):
    """Tell the sum of the lines, each so often as the row has it.

    Most matrices here are mostly noughts: a line that is due no times is passed over.
    """
    sums = [0] * columns
    for x, line in zip(row, lines):
        if x:
            sums = [total + x * y for total, y in zip(sums, line)]
    return tuple([total % prime for total in sums])


def _sum(row, line, prime):
    return tuple([(x + y) % prime for x, y in zip(row, line)])
