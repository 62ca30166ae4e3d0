"""Least forms of matrices by a prime, and line systems."""

from rootrooms.errors import NoFit
from rootrooms.matrices import need_matrix, ones
from rootrooms.rests import need_prime
from rootrooms.stairs import Stairs


def least(one, *, prime):
    """Tell the least form of a matrix and the columns of its leads."""
    stairs = _stairs_of(one, prime)
    rows, columns = one[:2]
    leads = sorted(stairs.steps)
    lines = [tuple(stairs.steps[lead]) for lead in leads]
    empty = [(0,) * columns] * (rows - len(leads))
    return (rows, columns, tuple(lines + empty)), tuple(leads)


def rank(one, *, prime):
    """Tell how many leads the least form of a matrix has."""
    return len(_stairs_of(one, prime).steps)


def kills(one, *, prime):
    """Tell columns, as many as the matrix has less its rank and of this rank, that it leads to noughts."""
    steps = _stairs_of(one, prime).steps
    columns = one[1]
    free = [k for k in range(columns) if k not in steps]
    lines = []
    for k in range(columns):
        if k in steps:
            lines.append(tuple([-steps[k][column] % prime for column in free]))
        else:
            lines.append(tuple([1 if k == column else 0 for column in free]))
    return columns, len(free), tuple(lines)


def fills(one, *, prime):
    """Tell columns, as many as the matrix has rows less its rank, beside which it has its rows as rank.

    They are ones at the rows that are sums of times of rows above them: a sum of times of the
    matrix's columns that is 0 at all other rows is 0 at these, too.
    """
    need_prime(prime)
    need_matrix(one, prime)
    rows, columns, numbers = one
    stairs = Stairs(columns, prime)
    free = [k for k in range(rows) if not stairs.take(numbers[k])]
    lines = [tuple([1 if k == row else 0 for k in free]) for row in range(rows)]
    return rows, len(free), tuple(lines)


def undo(one, *, prime):
    """Tell the contrary of a matrix, or None."""
    need_prime(prime)
    need_matrix(one, prime)
    rows, columns, numbers = one
    if rows != columns:
        return None
    stairs = Stairs(columns, prime)
    for row, line in zip(numbers, ones(rows)[2]):
        if not stairs.take(row + line):
            return None
    return rows, rows, tuple([tuple(stairs.steps[lead][rows:]) for lead in range(rows)])


def solved(one, right, *, prime):
    """Tell ("solved", x), one times x being right, or ("barred", w), w times one noughts, w times right not."""
    need_prime(prime)
    need_matrix(one, prime)
    need_matrix(right, prime)
    if one[0] != right[0]:
        raise NoFit("the right side has other than so many rows")
    rows, columns, numbers = one
    stairs = Stairs(columns, prime)
    standing = []
    for k in range(rows):
        left = stairs.left_of(numbers[k] + right[2][k])
        if stairs.put(left):
            standing.append(k)
        elif any(left):
            return "barred", _weights(one, standing, k, prime)
    empty = [0] * (columns + right[1])
    lines = [tuple(stairs.steps.get(k, empty)[columns:]) for k in range(columns)]
    return "solved", (columns, right[1], tuple(lines))


def _weights(one, standing, last, prime):
    """Tell one row by which the matrix comes to noughts: 1 at the last row, the others at standing ones.

    The standing rows are no sums of times of each other, so that the last row is one of them in one way.
    """
    rows, columns, numbers = one
    stairs = Stairs(len(standing), prime)
    for column in range(columns):
        stairs.take([numbers[k][column] for k in standing] + [numbers[last][column]])
    weights = [0] * rows
    weights[last] = 1
    for at, k in enumerate(standing):
        weights[k] = -stairs.steps[at][-1] % prime
    return 1, rows, (tuple(weights),)


def _stairs_of(one, prime):
    need_prime(prime)
    need_matrix(one, prime)
    stairs = Stairs(one[1], prime)
    for row in one[2]:
        stairs.take(row)
    return stairs
