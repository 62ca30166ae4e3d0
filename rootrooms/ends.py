"""The matrices of a room's arrows, elder and new ones, where books are turned."""

from rootrooms.lines import kills
from rootrooms.matrices import beside, flipped


def arrows_at(net, room):
    """Tell which arrows begin or end at this room, in their order."""
    return [arrow for arrow, ends in enumerate(net.arrows) if room in ends]


def over_sink(elder, *, rows, prime):
    """Tell the room's new number and the new matrices of what was a sink.

    Above one another the new ones are what the elder ones kill, beside one another.
    """
    found = kills(beside(elder, rows=rows, prime=prime), prime=prime)
    return found[1], cut_rows(found, [matrix[1] for matrix in elder])


def over_source(elder, *, columns, prime):
    """Tell the room's new number and the new matrices of what was a source: of a sink, all turned over."""
    there, new = over_sink(flips(elder, prime=prime), rows=columns, prime=prime)
    return there, flips(new, prime=prime)


def flips(matrices, *, prime):
    """Tell the matrices turned over, one by one."""
    return [flipped(matrix, prime=prime) for matrix in matrices]


def cut_rows(matrix, sizes):
    """Tell the matrices of so many rows that stand above one another in this one."""
    told = []
    first = 0
    for many in sizes:
        told.append((many, matrix[1], matrix[2][first:first + many]))
        first += many
    return told
