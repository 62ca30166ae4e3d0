"""What undoes a tie, laid out in a line system: by it maps and ties are told."""

from rootrooms.books import room_sizes


def laid_out(matrices):
    """Tell the numbers of matrices, one behind the other, row by row."""
    return [x for matrix in matrices for row in matrix[2] for x in row]


def set_up(sizes, numbers):
    """Tell the matrices of these sizes whose numbers are laid out so."""
    told = []
    first = 0
    for rows, columns in sizes:
        lines = [tuple(numbers[first + k * columns:first + (k + 1) * columns]) for k in range(rows)]
        told.append((rows, columns, tuple(lines)))
        first += rows * columns
    return tuple(told)


def undoing(net, over, under):
    """Tell the matrix that leads h, laid out, to the tie that it undoes, laid out.

    So what the matrix kills are the maps of the over book to the under one.
    """
    firsts = [0]
    for size in room_sizes(over[0], under[0]):
        firsts.append(firsts[-1] + size[0] * size[1])
    lines = []
    for arrow, (begin, end) in enumerate(net.arrows):
        columns = _columns(over[1][arrow])
        for at, row in enumerate(under[1][arrow][2]):
            for k, column in enumerate(columns):
                line = [0] * firsts[-1]
                _put_begin(line, firsts[begin] + k, len(columns), row)
                _put_end(line, firsts[end] + at * len(column), column, net.prime)
                lines.append(tuple(line))
    return len(lines), firsts[-1], tuple(lines)


def _columns(matrix):
    rows, columns, numbers = matrix
    return [[row[column] for row in numbers] for column in range(columns)]


def _put_begin(line, first, apart, row):
    """Put the under one's row, by a column of h at the begin, whose numbers stand so far apart."""
    for k, x in enumerate(row):
        line[first + k * apart] = x


def _put_end(line, first, column, prime):
    """Put less the over one's column, by a row of h at the end, whose numbers stand side by side."""
    for k, x in enumerate(column):
        line[first + k] = -x % prime
