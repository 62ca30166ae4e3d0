"""Books over few nets turned at one sink after the other, round by round, until nothing is left.

The rooms come in the order of sinks_first, over and over: so each is a sink in its turn, and after
a round the net is itself again. What stands alone at a turn comes from a part of the book, one root
for each turn: turned back at the same rooms, now sources, it rises to this part. On the way heaps
may grow beyond those of books, so that what falls is kept as numbers and matrices alone.
"""

from rootrooms.ends import arrows_at, cut_rows, flips, over_sink, over_source
from rootrooms.lines import fills, rank, solved
from rootrooms.matrices import above, beside, flipped, noughts, ones, product
from rootrooms.nets import heap_turned, others, single
from rootrooms.roots import sinks_first


def falls(net, book):
    """Tell for each turn the heap before it, and the matrices at its room, beside one another."""
    numbers, matrices = list(book[0]), list(book[1])
    order = sinks_first(net)
    told = []
    while any(numbers):
        room = order[len(told) % net.rooms]
        here = arrows_at(net, room)
        elder = [matrices[arrow] for arrow in here]
        told.append((tuple(numbers), beside(elder, rows=numbers[room], prime=net.prime)))
        numbers[room], new = over_sink(elder, rows=numbers[room], prime=net.prime)
        for arrow, matrix in zip(here, new):
            matrices[arrow] = matrix
    return told


def alones(net, book):
    """Tell how many rooms stand alone at each turn: the same of two books just where they are alike."""
    return [met[0] - rank(met, prime=net.prime) for _, met in falls(net, book)]


def root_of(net, turn):
    """Tell the root whose part stands alone at this turn."""
    order = sinks_first(net)
    root = single(net, order[turn % net.rooms])
    for k in reversed(range(turn)):
        root = heap_turned(net, root, order[k % net.rooms])
    return root


def turn_of(net, root):
    """Tell at which turn the part of this root stands alone."""
    order = sinks_first(net)
    turn = 0
    while root != single(net, order[turn % net.rooms]):
        root = heap_turned(net, root, order[turn % net.rooms])
        turn += 1
    return turn


def risen(net, turn, fallen, ways):
    """Tell the part that stands alone at this turn, and the ways of it into what fell.

    The ways that are handed in lead the room alone, standing at this turn, into what had fallen till then.
    """
    order = sinks_first(net)
    numbers = list(single(net, order[turn % net.rooms]))
    matrices = [noughts(numbers[begin] + numbers[end], 0) for begin, end in net.arrows]
    for k in reversed(range(turn)):
        room = order[k % net.rooms]
        here = arrows_at(net, room)
        elder = [matrices[arrow] for arrow in here]
        numbers[room], new = over_source(elder, columns=numbers[room], prime=net.prime)
        for arrow, matrix in zip(here, new):
            matrices[arrow] = matrix
        if ways:
            ways = _risen_ways(net, room, fallen[k][1], ways, beside(new, rows=numbers[room], prime=net.prime))
    return (tuple(numbers), tuple(matrices)), ways


def starts(net, turn, fallen):
    """Tell the ways of the room alone into what has fallen till this turn: as many as stand alone there."""
    heap, met = fallen[turn]
    room = sinks_first(net)[turn % net.rooms]
    told = []
    for column in flipped(fills(met, prime=net.prime), prime=net.prime)[2]:
        way = [noughts(many, 0) for many in heap]
        way[room] = heap[room], 1, tuple([(x,) for x in column])
        told.append(way)
    return told


def _risen_ways(net, room, met, ways, new):
    """Tell the ways with what they lead this room's space to, behind a turn back.

    There each way, behind the new matrices, is the elder ones behind the way at their begins; the new
    ones are of rows of full rank, so that by what is ones behind them the way itself is told.
    """
    within = solved(new, ones(new[0]), prime=net.prime)[1]
    begins = others(net, room)
    blocks = cut_rows(within, [ways[0][begin][1] for begin in begins])
    columns = []
    for way in ways:
        onward = [product(way[begin], block, prime=net.prime) for begin, block in zip(begins, blocks)]
        columns.append(above(onward, columns=new[0], prime=net.prime))
    # All at once, for the elder matrices may be large.
    raised = product(met, beside(columns, rows=met[1], prime=net.prime), prime=net.prime)
    cut = cut_rows(flipped(raised, prime=net.prime), [new[0]] * len(ways))
    there = flips(cut, prime=net.prime)
    return [way[:room] + [matrix] + way[room + 1:] for way, matrix in zip(ways, there)]
