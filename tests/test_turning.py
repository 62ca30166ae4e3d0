import itertools
import unittest

from rootrooms.between import maps
from rootrooms.books import is_map, joined, nought_book
from rootrooms.errors import NoBook, NoEnd, NoMap, TooGreat
from rootrooms.nets import Net, heap_turned, is_heap, sinks, sources
from rootrooms.parts import part
from rootrooms.roots import roots
from rootrooms.turning import returned, turned, turned_map
from tests.few import ANYTHING, SHAPES, FewChecks, nets_of
from tests.samples import all_matrices, empty, flipped_over, lined_up, rank_of, stacked, times_by, unit
from tests.shelf import (
    NO_BOOKS, alone_book, bare_book, book_nets, drawn_book, drawn_heap, mixed_book, nought_map, ones_map, otherwise,
    some_books, summed,
)
from tests.things import NO_MATRICES

NET = Net(3, ((0, 1), (2, 1)), prime=5)
BOOK = ((1, 2, 1), ((2, 1, ((1,), (2,))), (2, 1, ((2,), (4,)))))


def ends_of(net):
    """Return the ends of a net."""
    leaving = {begin for begin, _ in net.arrows}
    coming = {end for _, end in net.arrows}
    return [room for room in range(net.rooms) if room not in leaving or room not in coming]


def arrows_at(net, room):
    return [arrow for arrow, ends in enumerate(net.arrows) if room in ends]


def is_source(net, room):
    return any(begin == room for begin, _ in net.arrows)


def put_together(net, book, room):
    """Return the matrices of the room's arrows beside one another at a sink, above one another at a source."""
    matrix = empty(0, book[0][room]) if is_source(net, room) else empty(book[0][room], 0)
    for arrow in arrows_at(net, room):
        matrix = (stacked if is_source(net, room) else lined_up)(matrix, book[1][arrow])
    return matrix


def turnings():
    """Return nets, few and not, with an end and some books that aren't too great to be turned there."""
    found = []
    for net in book_nets() + nets_of(SHAPES):
        for room in ends_of(net):
            books = some_books(net, 2, 4) + [alone_book(net, room)]
            found.append((net, room, [book for book in books if is_heap(net, heap_expected(net, book, room))]))
    return found


def heap_expected(net, book, room):
    """Return the heap that the book turned is due to have."""
    number = sum(book[0][begin + end - room] for begin, end in net.arrows if room in (begin, end))
    number -= rank_of(put_together(net, book, room), net.prime)
    return book[0][:room] + (number,) + book[0][room + 1:]


class TurnedTest(FewChecks, unittest.TestCase):

    def is_turned(self, net, book, room):
        told = turned(net, book, room)
        self.assertIs(type(told), tuple)
        other, alone = told
        self.assertIs(type(alone), int)
        over = net.turned(room)
        self.is_made_book(over, other)
        elder, new = put_together(net, book, room), put_together(over, other, room)
        self.assertEqual(alone, book[0][room] - rank_of(elder, net.prime))
        number = heap_turned(net, book[0], room)[room] + alone
        self.assertEqual(other[0], book[0][:room] + (number,) + book[0][room + 1:])
        self.assertEqual(rank_of(new, net.prime), number)
        if is_source(net, room):
            self.assertEqual(times_by(new, elder, net.prime), empty(number, book[0][room]))
        else:
            self.assertEqual(times_by(elder, new, net.prime), empty(book[0][room], number))
        for arrow, ends in enumerate(net.arrows):
            if room not in ends:
                self.assertEqual(other[1][arrow], book[1][arrow])
        return alone

    def test_by_hand(self):
        # All that comes to room 1 are times of (1, 2): 1 stands alone there.
        (heap, maps_told), alone = turned(NET, BOOK, 1)
        self.assertEqual((heap, alone), ((1, 1, 1), 1))
        (_, _, ((first,),)), (_, _, ((second,),)) = maps_told
        self.assertEqual((first + 2 * second) % 5, 0)
        self.assertNotEqual(first, 0)
        # At a source nothing stands alone that is led on by an arrow.
        (heap, maps_told), alone = turned(NET, BOOK, 0)
        self.assertEqual((heap, alone), ((1, 2, 1), 0))
        self.assertEqual(maps_told[1], BOOK[1][1])
        (((first, second),),) = (maps_told[0][2],)
        self.assertEqual((first + 2 * second) % 5, 0)
        self.assertEqual(turned(Net(1, ()), ((3,), ()), 0), (((0,), ()), 3))
        net = Net(2, ((0, 1), (0, 1)), prime=3)
        book = ((1, 1), ((1, 1, ((1,),)), (1, 1, ((1,),))))
        (heap, maps_told), alone = turned(net, book, 1)
        self.assertEqual((heap, alone), ((1, 1), 0))
        self.assertIn(maps_told, [((1, 1, ((1,),)), (1, 1, ((2,),))), ((1, 1, ((2,),)), (1, 1, ((1,),)))])

    def test_over_all_nets(self):
        seen = set()
        for net, room, books in turnings():
            for book in books:
                alone = self.is_turned(net, book, room)
                seen.add((net.prime, is_source(net, room), len(arrows_at(net, room)) > 1, alone > 0))
        self.assertEqual(len(seen), 24)

    def test_books_of_parts_and_mixed_ones(self):
        for net in nets_of(SHAPES[:8]):
            some = [part(net, root) for root in roots(net)[::3]]
            book = joined(net, some[:3])
            for room in ends_of(net):
                for one in some + [book, mixed_book(net, book)[0]]:
                    self.is_turned(net, one, room)

    def test_a_part_stands_alone_or_turns_to_a_part(self):
        for net in nets_of(SHAPES):
            for root, room in itertools.product(roots(net), ends_of(net)):
                book, alone = turned(net, part(net, root), room)
                if root == tuple(int(k == room) for k in range(net.rooms)):
                    self.assertEqual((book, alone), (nought_book(net.turned(room)), 1))
                else:
                    self.assertEqual((book[0], alone), (heap_turned(net, root, room), 0))

    def test_nought_books(self):
        for net, room, _ in turnings():
            self.assertEqual(turned(net, nought_book(net), room), (nought_book(net.turned(room)), 0))

    def test_rooms_without_arrows(self):
        net = Net(3, ((0, 2),), prime=3)
        book = ((2, 4, 1), ((1, 2, ((1, 2),)),))
        self.assertEqual(turned(net, book, 1), (((2, 0, 1), book[1]), 4))

    def test_the_same_for_what_is_equal(self):
        for net, room, books in turnings():
            same = Net(net.rooms, tuple((begin, end) for begin, end in net.arrows), prime=net.prime)
            for book in books:
                kept = repr((net.rooms, net.arrows, net.prime, book, room))
                told = turned(net, book, room)
                self.assertEqual(turned(net, book, room), told)
                equal = tuple([tuple(list(book[0])), tuple([tuple(list(matrix)) for matrix in book[1]])])
                self.assertEqual(turned(same, equal, room), told)
                self.assertEqual(repr((net.rooms, net.arrows, net.prime, book, room)), kept)

    def test_refusals_in_their_order(self):
        net = Net(4, ((0, 1), (1, 2), (3, 2)), prime=5)
        self.assertEqual((sinks(net), sources(net)), ([2], [0, 3]))
        book = drawn_book(net, (1, 2, 2, 1))
        for room in [1, 4, 5, -1, -4, True, False, None, "0", "2", (2,), [0], [], ()] + ANYTHING:
            if type(room) is int and room in [0, 2, 3]:
                continue
            for function in [turned, returned]:
                self.refused(NoEnd, function, net, book, room)
                self.refused(NoBook, function, net, None, room)
            self.refused(NoEnd, turned_map, net, book, book, ones_map(book), room=room)
        for thing in NO_BOOKS + [(book[0][:3], book[1]), (book[0], book[1][:2])]:
            for room in [0, 1, 2, None]:
                for function in [turned, returned]:
                    self.refused(NoBook, function, net, thing, room)
        ring = Net(3, ((0, 1), (1, 2), (2, 0)))
        for room in range(3):
            self.refused(NoEnd, turned, ring, nought_book(ring), room)

    def test_too_great(self):
        net = Net(4, ((0, 1), (2, 1), (3, 1)), prime=3)
        cases = [
            ((12, 0, 0, 0), True), ((12, 0, 1, 0), False), ((6, 0, 6, 0), True), ((6, 0, 6, 1), False),
            ((5, 0, 5, 5), False), ((7, 8, 7, 5), True), ((7, 7, 7, 5), False), ((12, 12, 0, 0), True),
        ]
        for heap, fits in cases:
            for ways in [net, net.turned(1)]:
                # Books of matrices of the greatest ranks, beside one another and above one another, too.
                maps_told = []
                first = 0
                for begin, end in ways.arrows:
                    other = begin + end - 1
                    matrix = (heap[1], heap[other], tuple(
                        tuple(int(k - first == i) for i in range(heap[other])) for k in range(heap[1])))
                    first += heap[other]
                    maps_told.append(matrix if end == 1 else flipped_over(matrix))
                book = (heap, tuple(maps_told))
                if fits:
                    self.is_turned(ways, book, 1)
                    self.is_made_book(ways, returned(ways, book, 1)[0])
                else:
                    self.refused(TooGreat, turned, ways, book, 1)
                    self.refused(TooGreat, returned, ways, book, 1)
                    self.refused(TooGreat, turned_map, ways, book, book, ones_map(book), room=1)
                    small = nought_book(ways)
                    self.refused(TooGreat, turned_map, ways, book, small, nought_map(book, small), room=1)
                    self.refused(TooGreat, turned_map, ways, small, book, nought_map(small, book), room=1)
                    self.refused(NoEnd, turned_map, ways, small, book, nought_map(small, book), room=4)
        # 30 in all, and 31.
        net = Net(3, ((0, 1),), prime=2)
        for heap, error in [((12, 6, 12), None), ((12, 5, 12), TooGreat)]:
            book = (heap, ((heap[1], 12, ((0,) * 12,) * heap[1]),))
            self.refused(TooGreat, turned, net, book, 1)
            full = (heap, ((heap[1], 12, tuple(tuple(int(i == k) for i in range(12)) for k in range(heap[1]))),))
            if error is None:
                self.is_turned(net, full, 1)
            else:
                self.refused(error, turned, net, full, 1)


class TurnedMapTest(FewChecks, unittest.TestCase):

    def some_maps(self, net, one, other):
        told = maps(net, one, other)
        sizes = list(zip(other[0], one[0]))
        return [nought_map(one, other)] + told[:1] + [summed(told, sizes, net.prime, seed) for seed in range(2)]

    def is_turned_map(self, net, one, other, led, room):
        told = turned_map(net, one, other, led, room=room)
        over = net.turned(room)
        self.is_made_map(over, turned(net, one, room)[0], turned(net, other, room)[0], told)
        self.assertEqual(told[:room] + told[room + 1:], led[:room] + led[room + 1:])
        return told

    def test_over_all_nets(self):
        for net, room, books in turnings():
            for one, other in itertools.product(books[1:4], repeat=2):
                for led in self.some_maps(net, one, other):
                    self.is_turned_map(net, one, other, led, room)

    def test_there_is_just_one(self):
        for prime in [2, 3]:
            for net in [Net(3, ((0, 1), (2, 1)), prime=prime), Net(3, ((1, 0), (1, 2)), prime=prime),
                        Net(2, ((0, 1), (0, 1)), prime=prime), Net(2, (), prime=prime)]:
                over = net.turned(1)
                for seed in range(4):
                    one = drawn_book(net, (1, 1, 1)[:net.rooms], seed)
                    other = drawn_book(net, (2, 1, 1)[:net.rooms], seed + 1)
                    first, second = turned(net, one, 1)[0], turned(net, other, 1)[0]
                    for led in self.some_maps(net, one, other):
                        fitting = [led[:1] + (matrix,) + led[2:]
                                   for matrix in all_matrices(second[0][1], first[0][1], prime)]
                        fitting = [way for way in fitting if is_map(over, first, second, way)]
                        self.assertEqual(fitting, [self.is_turned_map(net, one, other, led, 1)])

    def test_of_ones_ones(self):
        for net, room, books in turnings():
            for book in books:
                told = turned_map(net, book, book, ones_map(book), room=room)
                self.assertEqual(told, ones_map(turned(net, book, room)[0]))

    def test_one_behind_the_other(self):
        for net, room, books in turnings():
            one, other, third = books[1:4]
            for first, second in zip(self.some_maps(net, one, other), self.some_maps(net, other, third)):
                both = tuple(times_by(then, led, net.prime) for led, then in zip(first, second))
                told = [turned_map(net, *books_led, room=room) for books_led in [
                    (one, other, first), (other, third, second), (one, third, both)]]
                behind = tuple(times_by(then, led, net.prime) for led, then in zip(told[0], told[1]))
                self.assertEqual(told[2], behind)

    def test_refusals_in_their_order(self):
        net = Net(4, ((0, 1), (1, 2), (3, 2)), prime=5)
        one, other = drawn_book(net, (1, 2, 2, 1)), drawn_book(net, (2, 1, 1, 2))
        led = nought_map(one, other)
        for thing in NO_BOOKS:
            self.refused(NoBook, turned_map, net, thing, other, led, room=1)
            self.refused(NoBook, turned_map, net, one, thing, led, room=1)
            self.refused(NoBook, turned_map, net, one, thing, None, room=None)
        for thing in otherwise(led, 5) + NO_MATRICES:
            self.refused(NoMap, turned_map, net, one, other, thing, room=2)
            self.refused(NoMap, turned_map, net, one, other, thing, room=1)
        # Of due sizes, but no map.
        alone, both = alone_book(net, 0), ((1, 1, 0, 0), ((1, 1, ((1,),)), (0, 1, ()), (0, 0, ())))
        sizes = [(rows, columns) for rows, columns in zip(both[0], alone[0])]
        wrong = tuple((rows, columns, ((1,) * columns,) * rows) for rows, columns in sizes)
        self.refused(NoMap, turned_map, net, alone, both, wrong, room=0)


class ReturnedTest(FewChecks, unittest.TestCase):

    def test_over_all_nets(self):
        seen = set()
        for net, room, books in turnings():
            for book in books:
                kept = repr((book, room))
                told = returned(net, book, room)
                self.assertIs(type(told), tuple)
                other, there, back = told
                over, alone = turned(net, book, room)
                again = turned(net.turned(room), over, room)[0]
                self.assertEqual(other, joined(net, [again] + [alone_book(net, room)] * alone))
                self.are_contrary(net, other, book, there, back)
                self.assertEqual(returned(net, book, room), told)
                self.assertEqual(repr((book, room)), kept)
                seen.add((net.prime, is_source(net, room), alone > 0))
        self.assertEqual(len(seen), 12)

    def test_parts_mixed_ones_and_those_that_stand_alone(self):
        for net in nets_of(SHAPES[:8]):
            for room in ends_of(net):
                some = [part(net, root) for root in roots(net)[::4]] + [alone_book(net, room)] * 2
                book = mixed_book(net, joined(net, some[-4:]), room)[0]
                for one in some + [book]:
                    other, there, back = returned(net, one, room)
                    self.are_contrary(net, other, one, there, back)

    def test_rooms_without_arrows(self):
        net = Net(2, (), prime=3)
        book = ((2, 3), ())
        other, there, back = returned(net, book, 1)
        self.assertEqual(other, book)
        self.are_contrary(net, book, book, there, back)
        self.assertEqual(returned(net, nought_book(net), 1), (nought_book(net), ((0, 0, ()),) * 2, ((0, 0, ()),) * 2))

    def test_bare_books(self):
        for net, room, _ in turnings():
            heap = tuple(2 if k == room else 1 for k in range(net.rooms))
            book = bare_book(net, heap)
            self.assertEqual(turned(net, book, room)[1], 2)
            other, there, back = returned(net, book, room)
            self.assertEqual(other, book)
            self.are_contrary(net, book, book, there, back)


class UnitTest(FewChecks, unittest.TestCase):

    def test_turned_back_ones_are_ones(self):
        # What doesn't stand alone comes back, also of maps: there, behind a map turned twice, is the map behind there.
        for net in nets_of(SHAPES[:6]):
            for room in ends_of(net):
                one, other = drawn_book(net, drawn_heap(net, 2, 1), 1), drawn_book(net, drawn_heap(net, 2, 2), 2)
                for led in maps(net, one, other)[:3]:
                    over = net.turned(room)
                    first, second = turned(net, one, room)[0], turned(net, other, room)[0]
                    once = turned_map(net, one, other, led, room=room)
                    twice = turned_map(over, first, second, once, room=room)
                    back = turned(over, first, room)[0], turned(over, second, room)[0]
                    self.is_made_map(net, *back, twice)
                    self.assertEqual(unit(back[0][0][room])[:2], (twice[room][1],) * 2)


if __name__ == "__main__":
    unittest.main()
