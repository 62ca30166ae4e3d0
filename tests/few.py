"""Few nets, counts and ends that the tests hand in, and checks of what is refused over other nets."""

from rootrooms.errors import NotFew, RoomError
from rootrooms.nets import Net, is_heap
from rootrooms.roots import roots
from tests.samples import chance_of, fork, hand, ring, row, shuffled, side_by_side
from tests.shelf import BookChecks, all_undone, form_of, mixed_book, rank_of_all, single_ones
from tests.things import NO_WHOLES, VERY_LONG

PRIMES = [2, 3, 97]
SMALL_SHAPES = [
    (1, []), (2, row(2)), (3, row(3)), side_by_side((2, row(2)), (1, [])), (4, row(4)), (4, fork(4)),
]
SHAPES = SMALL_SHAPES + [
    (5, row(5)), (5, fork(5)), (6, hand(6)), side_by_side((3, row(3)), (4, fork(4))), side_by_side((1, []), (1, [])),
]
GREAT_SHAPES = [(8, row(8)), (8, fork(8)), (7, hand(7)), (8, hand(8))]

# Nets that aren't few: rings, several arrows between two rooms, beside few pieces.
NO_FEW = [
    Net(2, ((0, 1), (0, 1))), Net(2, ((0, 1), (1, 0)), prime=97), Net(3, tuple(ring(3)), prime=3),
    Net(5, tuple((0, k) for k in range(1, 5))), Net(5, ((0, 1), (2, 3), (3, 4), (4, 2)), prime=3),
    Net(8, tuple(hand(8) + [(0, 1)])),
]

ANYTHING = NO_WHOLES + [0, 1, -1, 12, 13, VERY_LONG, -VERY_LONG, (0,), (1,), (0, 0), (1, 0), ((1, 0), 1), "one"]


def nets_of(shapes, seeds=1):
    """Return nets of these shapes by each prime, arrows this way and that."""
    return [shuffled(rooms, arrows, prime, (prime, seed)) for rooms, arrows in shapes
            for prime in PRIMES for seed in range(seeds)]


def fit_heap(net, heap):
    """Return the heap, with less at each room if it would be too great."""
    while not is_heap(net, heap):
        heap = tuple(max(0, many - 1) for many in heap)
    return heap


def drawn_counts(net, most=3, often=2, seed=0):
    """Return counts by chance: of at most so many roots, each at most so often."""
    chance = chance_of("counts", net.rooms, net.arrows, most, often, seed)
    found = {}
    all_roots = roots(net)
    for root in chance.sample(all_roots, min(chance.randint(1, most), len(all_roots))):
        found[root] = chance.randint(1, often)
        if not is_heap(net, heap_told(net, tuple(found.items()))):
            del found[root]
    return tuple(sorted(found.items()))


def heap_told(net, counts):
    """Return what the heaps of counts come to."""
    return tuple(sum(many * root[room] for root, many in counts) for room in range(net.rooms))


def added(one, other):
    """Return the counts of both together."""
    found = dict(one)
    for root, many in other:
        found[root] = found.get(root, 0) + many
    return tuple(sorted(found.items()))


def units(net):
    return [tuple(int(k == room) for k in range(net.rooms)) for room in range(net.rooms)]


def many_maps_told(net, one, other):
    """Return how many maps there are from which all of one book to another come in one way, by ranks."""
    unknown = len(single_ones(list(zip(other[0], one[0]))))
    return unknown - rank_of_all(all_undone(net, one, other), net.prime)


def many_ties_told(net, over, under):
    """Return how many ties there are from which all come in one way but for undone ones, by ranks."""
    return many_maps_told(net, over, under) - form_of(net, over[0], under[0])


def mixed(net, book, seed=0):
    """Return another book that is alike this one."""
    return mixed_book(net, book, seed)[0]


class FewChecks(BookChecks):

    def not_few(self, function, *given, **named):
        """Over nets that aren't few the call is refused with a bar, whatever else is handed in."""
        for net in NO_FEW:
            kept = (net.rooms, net.arrows, net.prime)
            with self.assertRaises(RoomError) as caught:
                function(net, *given, **named)
            self.assertIs(type(caught.exception), NotFew)
            heap = caught.exception.heap
            self.assertIs(is_heap(net, heap), True)
            self.assertTrue(any(heap))
            self.assertLessEqual(form_of(net, heap, heap), 0)
            self.assertEqual((net.rooms, net.arrows, net.prime), kept)

    def are_contrary(self, net, one, other, there, back):
        """There is a map of one to other, back its contrary."""
        self.is_made_map(net, one, other, there)
        self.is_made_map(net, other, one, back)
        self.is_undone(there, back, net.prime)

    def is_undone(self, there, back, prime):
        """Room by room either product of the two is ones."""
        for matrix, other in zip(there, back, strict=True):
            self.is_ones(matrix, other, prime)
            self.is_ones(other, matrix, prime)

    def is_ones(self, first, second, prime):
        product = [[sum(a * b for a, b in zip(line, column)) % prime for column in zip(*first[2])]
                   for line in second[2]]
        self.assertEqual(first[1], second[0])
        self.assertEqual(product, [[int(i == k) for k in range(first[1])] for i in range(second[0])])
