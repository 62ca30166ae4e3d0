import itertools
import unittest

from rootrooms.errors import NoHeap, NoNet, NoPrime, NoRoom
from rootrooms.nets import (
    Net, bar, form, heap_turned, is_few, is_heap, kinds, pieces, sinks, sources,
)
from tests.samples import (
    FEW_PIECES, MORE_PIECES, chance_of, drawn_net, fork, hand, ring, row, shuffled, side_by_side,
)
from tests.things import NO_PRIMES, NO_WHOLES, PRIMES, VERY_LONG, Refusals

ARROWS = ((0, 1), (2, 1), (0, 1), (2, 0))

# Each differs from ARROWS, over three rooms, by one thing.
NO_ARROWS = [
    ((0, 1), (2, 1), (1, 1), (2, 0)),
    ((0, 0),),
    ((0, 1), (2, 1), (0, 3), (2, 0)),
    ((0, 1), (3, 1), (0, 1), (2, 0)),
    ((0, 1), (2, 1), (0, 1), (2, -1)),
    ((-1, 1), (2, 1), (0, 1), (2, 0)),
    ((0, VERY_LONG), (2, 1), (0, 1), (2, 0)),
    ([0, 1], (2, 1), (0, 1), (2, 0)),
    ((0, 1), (2, 1), (0, 1), [2, 0]),
    ((0, 1), (2, 1, 0), (0, 1), (2, 0)),
    ((0, 1), (2,), (0, 1), (2, 0)),
    ((0, 1), (), (0, 1), (2, 0)),
    ((0, 1), (2, True), (0, 1), (2, 0)),
    ((False, 1), (2, 1), (0, 1), (2, 0)),
    ((0, 1), (2, 1), (0, True), (2, 0)),
    ((0, 1), (2, False), (0, 1), (2, 0)),
    ((0, 1), (2, "1"), (0, 1), (2, 0)),
    ((0, 1), (2, None), (0, 1), (2, 0)),
    ((0, 1), (2, (1,)), (0, 1), (2, 0)),
    ((0, 1), ([2], 1), (0, 1), (2, 0)),
    ((0, 1), "01", (0, 1), (2, 0)),
    ((0, 1), None, (0, 1), (2, 0)),
    ((0, 1), 2, (0, 1), (2, 0)),
    [(0, 1), (2, 1), (0, 1), (2, 0)],
    [],
    (0, 1),
    (ARROWS,),
    "",
    "0121",
    None,
    0,
    True,
    VERY_LONG,
    ((0, 1),) * 13,
    ((0, 1),) * 1000,
]

# Anything that is no heap of a net of three rooms.
NO_HEAPS = NO_WHOLES + [0, 1, 3, VERY_LONG, [0, 0, 0], [1, 2, 3], "abc", "000"] + [
    (0, 0), (0, 0, 0, 0), (1, 2), (1, 2, 3, 4), ((1, 2, 3),), (1, 2, (3,)), ((1, 2), 3), ([1], 2, 3),
    (13, 0, 0), (0, 13, 0), (0, 0, 13), (VERY_LONG, 0, 0), (0, 0, -VERY_LONG),
    (-1, 0, 0), (0, -1, 0), (0, 0, -1), (12, 12, -1), (-1, 12, 12),
    (12, 12, 7), (12, 7, 12), (7, 12, 12), (11, 10, 10), (12, 12, 12), (12, 11, 8),
    (True, 0, 0), (0, False, 0), (1, 2, True), (0, 0, None), ("1", 2, 3), (1, "", 3), (1, 2, "3"), (None,) * 3,
]


class NetTest(Refusals, unittest.TestCase):

    def test_the_fields(self):
        net = Net(3, ARROWS, prime=97)
        self.assertEqual((net.rooms, net.arrows, net.prime), (3, ARROWS, 97))
        self.assertIs(type(net.rooms), int)
        self.assertIs(type(net.arrows), tuple)
        for prime in PRIMES:
            self.assertEqual(Net(1, (), prime=prime).prime, prime)

    def test_the_prime_left_out_is_two(self):
        self.assertEqual(Net(3, ARROWS).prime, 2)
        self.assertEqual(Net(3, ARROWS), Net(3, ARROWS, prime=2))
        self.assertNotEqual(Net(3, ARROWS), Net(3, ARROWS, prime=3))

    def test_nets_there_are(self):
        for rooms in range(1, 9):
            net = Net(rooms, ())
            self.assertEqual((net.rooms, net.arrows, len(net)), (rooms, (), rooms))
        for rooms in range(2, 9):
            ways = [(a, b) for a in range(rooms) for b in range(rooms) if a != b]
            for many in range(13):
                arrows = tuple((ways * 6)[:many])
                self.assertEqual(Net(rooms, arrows).arrows, arrows)
        self.assertEqual(Net(2, ((0, 1),) * 12).arrows, ((0, 1),) * 12)
        self.assertEqual(Net(3, ((0, 1), (1, 2), (2, 0))).arrows, ((0, 1), (1, 2), (2, 0)))
        self.assertEqual(Net(2, ((0, 1), (1, 0))).arrows, ((0, 1), (1, 0)))

    def test_len(self):
        for rooms in range(1, 9):
            self.assertEqual(len(Net(rooms, (), prime=3)), rooms)
        self.assertEqual(len(Net(2, ((0, 1),) * 12)), 2)

    def test_equal(self):
        net = Net(3, ARROWS, prime=5)
        self.assertIs(net == Net(3, tuple(list(ARROWS)), prime=5), True)
        self.assertIs(net != Net(3, ARROWS, prime=5), False)
        others = [
            Net(4, ARROWS, prime=5), Net(3, ARROWS, prime=7), Net(3, ARROWS[:3], prime=5),
            Net(3, ARROWS + ((0, 1),), prime=5), Net(3, ARROWS[::-1], prime=5),
            Net(3, ((1, 0),) + ARROWS[1:], prime=5), Net(3, (), prime=5),
            3, ARROWS, (3, ARROWS, 5), [3, ARROWS, 5], None, True, "net", 5,
        ]
        for other in others:
            self.assertIs(net == other, False)
            self.assertIs(net != other, True)
            self.assertIs(other == net, False)
        self.assertNotEqual(Net(2, ((0, 1), (1, 0))), Net(2, ((1, 0), (0, 1))))

    def test_what_are_no_rooms(self):
        for rooms in NO_WHOLES + [0, -1, -3, 9, 10, 100, VERY_LONG, -VERY_LONG]:
            self.refused(NoNet, Net, rooms, ())
            self.refused(NoNet, Net, rooms, (), prime=97)
        self.refused(NoNet, Net, 1, ((0, 1),))
        self.refused(NoNet, Net, 1, ((0, 0),))
        self.refused(NoNet, Net, 2, ARROWS)
        self.refused(NoNet, Net, 8, ((0, 8),))

    def test_what_are_no_arrows(self):
        for arrows in NO_ARROWS:
            self.refused(NoNet, Net, 3, arrows)
            self.refused(NoNet, Net, 3, arrows, prime=3)
        for thing in NO_WHOLES:
            if thing != ():
                self.refused(NoNet, Net, 3, thing)
            self.refused(NoNet, Net, 3, (thing,))
            self.refused(NoNet, Net, 3, ((0, thing),))
            self.refused(NoNet, Net, 3, ((thing, 1),))

    def test_the_prime_is_refused_first(self):
        for prime in NO_PRIMES:
            self.refused(NoPrime, Net, 3, ARROWS, prime=prime)
            self.refused(NoPrime, Net, 0, ARROWS, prime=prime)
            self.refused(NoPrime, Net, None, [None], prime=prime)

    def test_turned(self):
        net = Net(4, ARROWS, prime=7)
        self.assertEqual(net.turned(0), Net(4, ((1, 0), (2, 1), (1, 0), (0, 2)), prime=7))
        self.assertEqual(net.turned(1), Net(4, ((1, 0), (1, 2), (1, 0), (2, 0)), prime=7))
        self.assertEqual(net.turned(2), Net(4, ((0, 1), (1, 2), (0, 1), (0, 2)), prime=7))
        self.assertEqual(net.turned(3), net)
        self.assertEqual(net, Net(4, ARROWS, prime=7))
        self.assertIs(type(net.turned(3)), Net)

    def test_turned_twice_and_at_all_rooms(self):
        for seed in range(200):
            net = drawn_net(seed)
            for room in range(net.rooms):
                turned = net.turned(room)
                self.assertEqual((turned.rooms, turned.prime), (net.rooms, net.prime))
                for arrow, other in zip(net.arrows, turned.arrows):
                    self.assertEqual(other, arrow[::-1] if room in arrow else arrow)
                self.assertEqual(turned.turned(room), net)
            turned = net
            for room in range(net.rooms):
                turned = turned.turned(room)
            self.assertEqual(turned, net)

    def test_turned_at_no_room(self):
        for thing in NO_WHOLES + [-1, 3, 4, 8, VERY_LONG, -VERY_LONG]:
            self.refused(NoRoom, Net(3, ARROWS).turned, thing)
        self.refused(NoRoom, Net(1, ()).turned, 1)
        self.refused(NoRoom, Net(1, ()).turned, False)


class HeapTest(Refusals, unittest.TestCase):

    def test_heaps(self):
        net = Net(3, ARROWS)
        for heap in [(0, 0, 0), (1, 2, 3), (12, 0, 0), (0, 12, 0), (0, 0, 12), (12, 12, 6), (10, 10, 10), (6, 12, 12)]:
            self.assertIs(is_heap(net, heap), True)
        for rooms in range(1, 9):
            net = Net(rooms, ())
            self.assertIs(is_heap(net, (0,) * rooms), True)
            self.assertIs(is_heap(net, (12,) + (0,) * (rooms - 1)), True)
            self.assertIs(is_heap(net, (0,) * (rooms + 1)), False)
            self.assertIs(is_heap(net, (0,) * (rooms - 1)), False)
            self.assertIs(is_heap(net, (4,) * rooms), 4 * rooms <= 30)

    def test_all_small_and_great_numbers(self):
        net = Net(3, ())
        for heap in itertools.product([-1, 0, 1, 5, 6, 7, 11, 12, 13], repeat=3):
            self.assertIs(is_heap(net, heap), 0 <= min(heap) and max(heap) <= 12 and sum(heap) <= 30)

    def test_anything(self):
        for prime in [2, 97]:
            for thing in NO_HEAPS:
                self.assertIs(is_heap(Net(3, ARROWS, prime=prime), thing), False)


class FormTest(Refusals, unittest.TestCase):

    def test_by_hand(self):
        net = Net(3, ARROWS)
        self.assertEqual(form(net, (1, 2, 3), (4, 5, 6)), 4 + 10 + 18 - 5 - 15 - 5 - 12)
        self.assertEqual(form(net, (4, 5, 6), (1, 2, 3)), 4 + 10 + 18 - 8 - 12 - 8 - 6)
        self.assertEqual(form(net, (0, 0, 0), (4, 5, 6)), 0)
        self.assertEqual(form(net, (12, 6, 12), (12, 12, 6)), 144 + 72 + 72 - 144 - 144 - 144 - 144)
        self.assertEqual(form(Net(2, ((0, 1), (1, 0))), (2, 3), (5, 7)), 10 + 21 - 14 - 15)
        self.assertEqual(form(Net(1, ()), (12,), (12,)), 144)
        self.assertIs(type(form(net, (1, 2, 3), (4, 5, 6))), int)

    def test_room_by_room_and_arrow_by_arrow(self):
        for seed in range(100):
            net = drawn_net(seed)
            units = [tuple(int(k == room) for k in range(net.rooms)) for room in range(net.rooms)]
            for a, one in enumerate(units):
                for b, other in enumerate(units):
                    self.assertEqual(form(net, one, other), int(a == b) - net.arrows.count((a, b)))

    def test_refusals(self):
        net = Net(3, ARROWS)
        for thing in NO_HEAPS:
            self.refused(NoHeap, form, net, thing, (1, 2, 3))
            self.refused(NoHeap, form, net, (1, 2, 3), thing)
            self.refused(NoHeap, form, net, thing, thing)


class PiecesTest(unittest.TestCase):

    def test_by_hand(self):
        self.assertEqual(pieces(Net(1, ())), [[0]])
        self.assertEqual(pieces(Net(3, ())), [[0], [1], [2]])
        self.assertEqual(pieces(Net(3, ((2, 0),))), [[0, 2], [1]])
        self.assertEqual(pieces(Net(3, ((0, 2),))), [[0, 2], [1]])
        self.assertEqual(pieces(Net(6, ((5, 1), (4, 0), (4, 2), (0, 2)))), [[0, 2, 4], [1, 5], [3]])
        self.assertEqual(pieces(Net(8, ((7, 6), (6, 5), (5, 4), (4, 3), (3, 2), (2, 1), (1, 0)))), [list(range(8))])
        self.assertEqual(kinds(Net(6, ((5, 1), (4, 0), (4, 2), (0, 2)))), [("more", 3), ("row", 2), ("row", 1)])

    def test_rooms_that_hang_together(self):
        for seed in range(300):
            net = drawn_net(seed)
            told = pieces(net)
            self.assertEqual(sorted(sum(told, [])), list(range(net.rooms)))
            self.assertEqual(told, sorted(sorted(piece) for piece in told))
            place = {room: at for at, piece in enumerate(told) for room in piece}
            for begin, end in net.arrows:
                self.assertEqual(place[begin], place[end])
            # As many pieces as hanging together tells: each arrow that joins two makes one less.
            names = list(range(net.rooms))
            for begin, end in net.arrows:
                names = [names[begin] if name == names[end] else name for name in names]
            self.assertEqual(len(told), len(set(names)))

    def test_told_lists_are_the_askers_own(self):
        net = Net(6, ((5, 1), (4, 0), (4, 2), (0, 2)))
        for function in [pieces, kinds, sinks, sources]:
            told = function(net)
            kept = repr(told)
            if function is pieces:
                told[0].clear()
            told.clear()
            self.assertEqual(repr(function(net)), kept)


class FewTest(unittest.TestCase):

    def few(self, net, expected):
        self.assertEqual(sorted(kinds(net)), sorted(expected))
        self.assertIs(is_few(net), True)
        self.assertIsNone(bar(net))

    def more(self, net, many):
        self.assertIn(("more", many), kinds(net))
        self.assertIs(is_few(net), False)
        heap = bar(net)
        self.assertIs(is_heap(net, heap), True)
        self.assertTrue(any(heap))
        self.assertLessEqual(form(net, heap, heap), 0)

    def test_rows_forks_and_hands(self):
        for kind, many, arrows in FEW_PIECES:
            for seed in range(30):
                self.few(shuffled(many, arrows, 97, seed), [kind])

    def test_all_ways_of_the_arrows(self):
        for kind, many, arrows in FEW_PIECES:
            for turned in itertools.product([False, True], repeat=min(len(arrows), 5)):
                ways = [arrow[::-1] if over else arrow for arrow, over in zip(arrows, turned + (False,) * 3)]
                self.few(Net(many, tuple(ways)), [kind])

    def test_several_pieces(self):
        for pair in itertools.combinations_with_replacement(FEW_PIECES, 2):
            rooms, arrows = side_by_side(*[piece[1:] for piece in pair])
            if rooms <= 8:
                self.few(shuffled(rooms, arrows), [piece[0] for piece in pair])
        self.few(Net(8, ()), [("row", 1)] * 8)
        self.few(Net(8, ((6, 1), (2, 5), (3, 7))), [("row", 2)] * 3 + [("row", 1)] * 2)

    def test_kinds_stand_in_the_order_of_the_pieces(self):
        self.assertEqual(kinds(Net(8, ((1, 3), (5, 3), (7, 3), (0, 6), (6, 4)))),
                         [("row", 3), ("fork", 4), ("row", 1)])
        self.assertEqual(kinds(Net(8, ((2, 3), (5, 3), (7, 3), (0, 6), (1, 0)))),
                         [("row", 3), ("fork", 4), ("row", 1)])
        self.assertEqual(kinds(Net(8, ((3, 4), (5, 4), (7, 4), (6, 7), (0, 2), (2, 0)))),
                         [("more", 2), ("row", 1), ("fork", 5)])

    def test_more(self):
        for many, arrows in MORE_PIECES:
            for seed in range(20):
                net = shuffled(many, arrows, seed=seed)
                self.assertEqual(kinds(net), [("more", many)])
                self.more(net, many)

    def test_more_beside_few(self):
        for many, arrows in MORE_PIECES:
            for kind, others, some in FEW_PIECES:
                rooms, both = side_by_side((others, some), (many, arrows))
                if rooms <= 8 and len(both) <= 12:
                    net = shuffled(rooms, both)
                    self.assertEqual(sorted(kinds(net)), sorted([kind, ("more", many)]))
                    self.more(net, many)

    def test_one_arrow_more_makes_more(self):
        for kind, many, arrows in FEW_PIECES:
            for a, b in itertools.permutations(range(many), 2):
                net = shuffled(many, arrows + [(a, b)])
                self.assertEqual(kinds(net), [("more", many)])
                self.more(net, many)

    def test_one_room_more(self):
        for kind, many, arrows in FEW_PIECES:
            for room in range(many if many < 8 else 0):
                net = shuffled(many + 1, arrows + [(room, many)])
                word = kinds(net)[0][0]
                if word == "more":
                    self.more(net, many + 1)
                else:
                    self.few(net, [(word, many + 1)])
        self.assertEqual(kinds(Net(8, tuple(hand(7) + [(0, 7)])))[0], ("more", 8))
        self.assertEqual(kinds(Net(8, tuple(hand(7) + [(5, 7)])))[0], ("hand", 8))
        self.assertEqual(kinds(Net(7, tuple(hand(6) + [(5, 6)])))[0], ("more", 7))
        self.assertEqual(kinds(Net(8, tuple(fork(7) + [(0, 7)])))[0], ("fork", 8))
        self.assertEqual(kinds(Net(6, tuple(fork(5) + [(3, 5)])))[0], ("hand", 6))
        self.assertEqual(kinds(Net(6, tuple(fork(5) + [(0, 5)])))[0], ("fork", 6))
        self.assertEqual(kinds(Net(6, tuple(row(5) + [(2, 5)])))[0], ("hand", 6))
        self.assertEqual(kinds(Net(6, tuple(ring(5) + [(2, 5)])))[0], ("more", 6))

    def test_any_net_is_few_or_has_a_bar(self):
        seen = set()
        for seed in range(3000):
            net = drawn_net(seed)
            few = all(kind != "more" for kind, _ in kinds(net))
            self.assertIs(is_few(net), few)
            seen.add(few)
            if few:
                self.assertIsNone(bar(net))
                chance = chance_of(seed)
                for _ in range(5):
                    heap = tuple(chance.randint(0, 3) for _ in range(net.rooms))
                    if any(heap):
                        self.assertGreater(form(net, heap, heap), 0)
            else:
                self.more(net, max(many for kind, many in kinds(net) if kind == "more"))
        self.assertEqual(seen, {True, False})


class EndsTest(unittest.TestCase):

    def test_by_hand(self):
        net = Net(5, ((0, 1), (2, 1), (0, 1), (2, 0)))
        self.assertEqual(sinks(net), [1, 3, 4])
        self.assertEqual(sources(net), [2, 3, 4])
        self.assertEqual((sinks(Net(1, ())), sources(Net(1, ()))), ([0], [0]))
        ringed = Net(3, ((0, 1), (1, 2), (2, 0)))
        self.assertEqual((sinks(ringed), sources(ringed)), ([], []))
        self.assertEqual((sinks(Net(2, ((1, 0),))), sources(Net(2, ((1, 0),)))), ([0], [1]))

    def test_in_any_net(self):
        for seed in range(200):
            net = drawn_net(seed)
            rooms = list(range(net.rooms))
            self.assertEqual(sinks(net), [room for room in rooms if all(begin != room for begin, end in net.arrows)])
            self.assertEqual(sources(net), [room for room in rooms if all(end != room for begin, end in net.arrows)])


class HeapTurnedTest(Refusals, unittest.TestCase):

    def test_by_hand(self):
        net = Net(4, ARROWS, prime=3)
        self.assertEqual(heap_turned(net, (1, 2, 3, 4), 0), (2 + 2 + 3 - 1, 2, 3, 4))
        self.assertEqual(heap_turned(net, (1, 2, 3, 4), 1), (1, 1 + 3 + 1 - 2, 3, 4))
        self.assertEqual(heap_turned(net, (1, 2, 3, 4), 2), (1, 2, 2 + 1 - 3, 4))
        self.assertEqual(heap_turned(net, (1, 2, 3, 4), 3), (1, 2, 3, -4))
        self.assertEqual(heap_turned(net, (0, 12, 0, 0), 1), (0, -12, 0, 0))
        self.assertEqual(heap_turned(Net(2, ((0, 1),) * 12), (1, 12), 0), (143, 12))
        self.assertEqual(heap_turned(Net(1, ()), (0,), 0), (0,))

    def test_in_any_net(self):
        for seed in range(100):
            net = drawn_net(seed)
            chance = chance_of(seed)
            heap = tuple(chance.randint(0, 3) for _ in range(net.rooms))
            for room in range(net.rooms):
                told = heap_turned(net, heap, room)
                self.assertIs(type(told), tuple)
                self.assertEqual(told[:room] + told[room + 1:], heap[:room] + heap[room + 1:])
                come = sum(heap[begin] for begin, end in net.arrows if end == room)
                leave = sum(heap[end] for begin, end in net.arrows if begin == room)
                self.assertEqual(told[room], come + leave - heap[room])
                if is_heap(net, told):
                    self.assertEqual(heap_turned(net.turned(room), told, room), heap)
                    self.assertEqual(form(net.turned(room), told, told), form(net, heap, heap))

    def test_refusals_in_the_order_of_the_arguments(self):
        net = Net(3, ARROWS)
        no_rooms = NO_WHOLES + [-1, 3, 8, VERY_LONG, -VERY_LONG]
        for thing in NO_HEAPS:
            self.refused(NoHeap, heap_turned, net, thing, 1)
            self.refused(NoHeap, heap_turned, net, thing, 3)
            self.refused(NoHeap, heap_turned, net, thing, None)
        for thing in no_rooms:
            self.refused(NoRoom, heap_turned, net, (1, 2, 3), thing)


if __name__ == "__main__":
    unittest.main()
