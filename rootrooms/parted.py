"""Heaps parted: counts of one heap, how many maps and ties there are between counts, which lie below which."""

from rootrooms.errors import NoFit, TooMany
from rootrooms.falls import root_of
from rootrooms.nets import form, need_few, need_heap, others, single
from rootrooms.parts import heap_counted, need_counts
from rootrooms.roots import roots, sinks_first

MOST_PARTINGS = 300


def heap_of(net, counts):
    """Tell the heap that counts come to."""
    need_few(net)
    need_counts(net, counts)
    return heap_counted(net, counts)


def many_maps(net, one, other):
    """Tell how many maps of counts to counts there are, of which all come in one way each."""
    need_few(net)
    need_counts(net, one)
    need_counts(net, other)
    return maps_counted(net, one, other)


def many_ties(net, over, under):
    """Tell how many ties of counts over counts there are, from which, but for undone ones, all come in one way each."""
    need_few(net)
    need_counts(net, over)
    need_counts(net, under)
    return ties_counted(net, over, under)


def parted(net, heap):
    """Tell all counts with this heap, rising."""
    need_few(net)
    need_heap(net, heap)
    begun = [(heap, [])]
    for root in roots(net):
        # Whatever is left is made of roots of 1 at one room in just one way: so each one begun comes to counts.
        if sum(root) > 1:
            begun = [(rest, counts + more) for left, counts in begun for rest, more in _taken(left, root)]
        if len(begun) > MOST_PARTINGS:
            raise TooMany("there are more than 300 counts with this heap")
    return sorted([tuple(sorted(counts + _singles(net, rest))) for rest, counts in begun])


def plain(net, heap):
    """Tell the counts with this heap that have no ties over themselves.

    Of a book without ties over itself the arrows to a sink hit all that they may: alone there stands
    what its number is beyond those at the begins. Turned there it is again without such ties.
    """
    need_few(net)
    need_heap(net, heap)
    numbers = list(heap)
    order = sinks_first(net)
    counts = []
    turn = 0
    while any(numbers):
        room = order[turn % net.rooms]
        there = sum([numbers[other] for other in others(net, room)])
        alone = max(numbers[room] - there, 0)
        if alone:
            counts.append((root_of(net, turn), alone))
        numbers[room] = there - numbers[room] + alone
        turn += 1
    return tuple(sorted(counts))


def below(net, one, other):
    """Tell whether one of two counts of one heap is below the other, or the first root of which more maps go to it."""
    need_few(net)
    need_counts(net, one)
    need_counts(net, other)
    if heap_counted(net, one) != heap_counted(net, other):
        raise NoFit("the two are not of one heap")
    for root in roots(net):
        one_root = ((root, 1),)
        if maps_counted(net, one_root, one) > maps_counted(net, one_root, other):
            return "not", root
    return ("below",)


def maps_counted(net, one, other):
    """Tell how many maps there are of what is counts to counts."""
    return sum([many * more * max(form(net, root, onto), 0) for root, many in one for onto, more in other])


def ties_counted(net, over, under):
    """Tell how many ties there are of what is counts over counts."""
    return sum([many * more * max(-form(net, root, onto), 0) for root, many in over for onto, more in under])


def _taken(left, root):
    """Tell for each number of times that the root goes into the heap what is left, and the counts of it."""
    told = [(left, [])]
    most = min([x // y for x, y in zip(left, root) if y])
    for many in range(1, most + 1):
        told.append((tuple([x - many * y for x, y in zip(left, root)]), [(root, many)]))
    return told


def _singles(net, heap):
    return [(single(net, room), many) for room, many in enumerate(heap) if many]
