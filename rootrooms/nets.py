"""Nets of rooms and arrows, their heaps, and which nets are few."""

from rootrooms.errors import NoHeap, NoNet, NoRoom, NotFew
from rootrooms.rests import need_prime
from rootrooms.wholes import is_whole_to

MOST_ROOMS = 8
MOST_ARROWS = 12
MOST_IN_A_ROOM = 12
MOST_IN_ALL = 30


class Net:
    """Rooms, arrows between them in an order, and the prime by which is reckoned."""

    def __init__(self, rooms, arrows, *, prime=2):
        need_prime(prime)
        if not is_whole_to(rooms, MOST_ROOMS) or rooms == 0:
            raise NoNet("from one to eight rooms are due")
        if not isinstance(arrows, tuple) or len(arrows) > MOST_ARROWS:
            raise NoNet("a tuple of at most twelve arrows is due")
        if not all([_is_arrow(thing, rooms) for thing in arrows]):
            raise NoNet("an arrow is a tuple of two unlike rooms")
        self.rooms = rooms
        self.arrows = arrows
        self.prime = prime

    def __eq__(self, other):
        return (isinstance(other, Net) and self.rooms == other.rooms
                and self.arrows == other.arrows and self.prime == other.prime)

    def __len__(self):
        return len((0,) * self.rooms)

    def turned(self, room):
        """Tell the net with the arrows of this room turned over."""
        need_room(self, room)
        arrows = [(end, begin) if room in (begin, end) else (begin, end) for begin, end in self.arrows]
        return Net(self.rooms, tuple(arrows), prime=self.prime)


def is_heap(net, thing):
    """Tell of anything whether it is a heap of the net."""
    if not isinstance(thing, tuple) or len(thing) != net.rooms:
        return False
    return all([is_whole_to(x, MOST_IN_A_ROOM) for x in thing]) and sum(thing) <= MOST_IN_ALL


def need_heap(net, thing):
    """Refuse what is no heap of the net."""
    if not is_heap(net, thing):
        raise NoHeap("a heap of the net is due")


def need_room(net, thing):
    """Refuse what is no room of the net."""
    if not is_whole_to(thing, net.rooms - 1):
        raise NoRoom("a room of the net is due")


def form(net, one, other):
    """Tell the form of two heaps."""
    need_heap(net, one)
    need_heap(net, other)
    rooms = sum([x * y for x, y in zip(one, other)])
    return rooms - sum([one[begin] * other[end] for begin, end in net.arrows])


def pieces(net):
    """Tell the rooms that hang together by arrows, piece by piece."""
    told = []
    for room in range(net.rooms):
        if not any([room in piece for piece in told]):
            told.append(sorted(_reached(net, room)))
    return told


def kinds(net):
    """Tell the kind of each piece, in the order of the pieces."""
    return [_kind(net, piece) for piece in pieces(net)]


def is_few(net):
    """Tell whether no piece is more than a row, a fork or a hand."""
    return not any([kind[0] == "more" for kind in kinds(net)])


def bar(net):
    """Tell a heap, not nought, whose form with itself is at most 0, or None of a few net."""
    return grown(net)[1]


def need_few(net):
    """Refuse a net that isn't few."""
    if not is_few(net):
        raise NotFew(bar(net))


def sinks(net):
    """Tell the rooms that no arrow leaves."""
    left = [arrow[0] for arrow in net.arrows]
    return [room for room in range(net.rooms) if room not in left]


def sources(net):
    """Tell the rooms that no arrow comes to."""
    come_to = [arrow[1] for arrow in net.arrows]
    return [room for room in range(net.rooms) if room not in come_to]


def heap_turned(net, heap, room):
    """Tell the heap turned at a room: it may have a number below 0 there."""
    need_heap(net, heap)
    need_room(net, room)
    there = sum([heap[other] for other in others(net, room)]) - heap[room]
    return heap[:room] + (there,) + heap[room + 1:]


def single(net, room):
    """Tell the heap of 1 at this room, 0 else."""
    return tuple([1 if k == room else 0 for k in range(net.rooms)])


def others(net, room):
    """Tell the other ends of a room's arrows, one for each arrow."""
    return [begin + end - room for begin, end in net.arrows if room in (begin, end)]


def grown(net):
    """Tell heaps whose form with themselves is 1, grown by one at a time, and a bar or None.

    One more at a room adds to this form 1, twice the number there, less the numbers at the other
    ends of its arrows: so it stays 1, or a bar is found. Of a few net all roots grow so. Any other
    net holds a ring, or a least tree that isn't few, with a bar of 18 in all at most, and as all
    heaps of one size grow at once, no heap grows beyond this before a bar is found.
    """
    told = []
    level = [single(net, room) for room in range(net.rooms)]
    while level:
        told = told + level
        greater = {}
        for heap in level:
            for room in range(net.rooms):
                change = 2 * heap[room] - sum([heap[other] for other in others(net, room)])
                if change < -1:
                    return told, _raised(heap, room)
                if change == -1:
                    greater[_raised(heap, room)] = True
        level = list(greater)
    return told, None


def _raised(heap, room):
    return heap[:room] + (heap[room] + 1,) + heap[room + 1:]


def _is_arrow(thing, rooms):
    if not isinstance(thing, tuple) or len(thing) != 2:
        return False
    return all([is_whole_to(room, rooms - 1) for room in thing]) and thing[0] != thing[1]


def _reached(net, room):
    told = [room]
    at = 0
    while at < len(told):
        told = told + sorted({other for other in others(net, told[at]) if other not in told})
        at += 1
    return told


def _kind(net, piece):
    many = len(piece)
    branches = [room for room in piece if len(others(net, room)) > 2]
    # What hangs together by one arrow less than its rooms has no ring and no two arrows between two rooms.
    if _ends(net, piece) != 2 * many - 2 or len(branches) > 1:
        return "more", many
    if not branches:
        return "row", many
    arms = sorted([_arm(net, branches[0], room) for room in others(net, branches[0])])
    if len(arms) == 3 and arms[:2] == [1, 1]:
        return "fork", many
    if len(arms) == 3 and arms[:2] == [1, 2] and arms[2] <= 4:
        return "hand", many
    return "more", many


def _ends(net, piece):
    """Tell how many ends of arrows a piece has, two for each arrow."""
    return sum([len(others(net, room)) for room in piece])


def _arm(net, before, room):
    """Tell how many rooms there are from this one on, away from the one before."""
    many = 1
    onward = [other for other in others(net, room) if other != before]
    while onward:
        before, room = room, onward[0]
        onward = [other for other in others(net, room) if other != before]
        many += 1
    return many
