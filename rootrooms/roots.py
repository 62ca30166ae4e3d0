"""Roots of few nets: in a ladder, before and behind one another."""

from rootrooms.errors import NoRoot
from rootrooms.nets import form, grown, is_heap, need_few, single


def roots(net):
    """Tell all roots, rising."""
    need_few(net)
    return sorted(grown(net)[0])


def ladder(net):
    """Tell all roots, each once, so that the form of a later one with an earlier one is never above 0.

    They come by steps: first those that none is before, then always those behind the ones of the
    step before. Within a step the room that an arrow comes to stands ahead of the one that it leaves.
    """
    need_few(net)
    step = _firsts(net)
    told = []
    while step:
        told = told + step
        behind_these = [_behind(net, root) for root in step]
        step = [root for root in behind_these if root is not None]
    return told


def before(net, root):
    """Tell the root z with form(y, z) = -form(root, y) for all heaps y, or None."""
    need_few(net)
    need_root(net, root)
    return _shifted(net.arrows, sinks_first(net), root)


def behind(net, root):
    """Tell the root x that this root is before, or None."""
    need_few(net)
    need_root(net, root)
    return _behind(net, root)


def is_root(net, thing):
    """Tell of anything whether it is a root of a few net."""
    return is_heap(net, thing) and form(net, thing, thing) == 1


def need_root(net, thing):
    """Refuse what is no root of a few net."""
    if not is_root(net, thing):
        raise NoRoot("a root of the net is due")


def sinks_first(net):
    """Tell the rooms in an order in which each arrow's end stands ahead of its begin."""
    told = []
    while len(told) < net.rooms:
        for room in range(net.rooms):
            if room not in told and all([end in told for begin, end in net.arrows if begin == room]):
                told.append(room)
    return told


def _behind(net, root):
    """Behind is what is before where all arrows are turned over, for this changes the sides of the form."""
    over = [(end, begin) for begin, end in net.arrows]
    return _shifted(over, list(reversed(sinks_first(net))), root)


def _shifted(arrows, order, root):
    """Tell the root before this one, the rooms in an order in which each arrow's end stands ahead of its begin.

    With the heap of 1 at a room, 0 else, as y, form(y, z) is z's number there less those at the
    ends of the arrows that leave the room: so room by room one number of z is told.
    """
    shifted = [0] * len(root)
    for room in order:
        come = sum([root[begin] for begin, end in arrows if end == room])
        leave = sum([shifted[end] for begin, end in arrows if begin == room])
        shifted[room] = come - root[room] + leave
    if any([x < 0 for x in shifted]):
        return None
    return tuple(shifted)


def _firsts(net):
    """Tell the roots that none is before: at each room as many as there are ways along the arrows to it."""
    told = {}
    for room in sinks_first(net):
        heap = single(net, room)
        for begin, end in net.arrows:
            if begin == room:
                heap = tuple([x + y for x, y in zip(heap, told[end])])
        told[room] = heap
    return list(told.values())
