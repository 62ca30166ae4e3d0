import unittest

from rootrooms.between import maps
from rootrooms.books import nought_book
from rootrooms.cuts import arrows_hit, hit, killed, left
from rootrooms.errors import NoBook, NoMap
from rootrooms.nets import Net
from tests.samples import empty, lined_up, rank_of, times_by, unit
from tests.shelf import (
    BOOK, NET, NO_BOOKS, BookChecks, all_maps, bare_book, book_nets, changed, drawn_book, drawn_heap, mixed_book,
    nought_map, ones_map, otherwise, some_books, summed,
)
from tests.things import NO_MATRICES

CUTS = [killed, hit, left]


def some_maps(net, one, other):
    """Return the map of noughts, and some by chance, of one to other."""
    told = maps(net, one, other)
    sizes = list(zip(other[0], one[0]))
    return [nought_map(one, other)] + told[:2] + [summed(told, sizes, net.prime, seed) for seed in range(2)]


def samples():
    """Return nets with two books and a map of the one to the other."""
    found = []
    for net in book_nets():
        books = some_books(net)
        found += [(net, one, other, led) for one in books for other in books for led in some_maps(net, one, other)]
        for one in books:
            found.append((net, one, one, ones_map(one)))
            other, way = mixed_book(net, one)
            found.append((net, one, other, way))
    return found


class CutChecks(BookChecks):

    def is_killed(self, net, one, other, led):
        book, way = killed(net, one, other, led)
        self.is_made_book(net, book)
        self.is_made_map(net, book, one, way)
        for room, matrix in enumerate(led):
            many = one[0][room] - rank_of(matrix, net.prime)
            self.assertEqual(book[0][room], many)
            self.assertEqual(rank_of(way[room], net.prime), many)
            self.assertEqual(times_by(matrix, way[room], net.prime), empty(matrix[0], many))

    def is_hit(self, net, one, other, led):
        book, way = hit(net, one, other, led)
        self.is_made_book(net, book)
        self.is_made_map(net, book, other, way)
        for room, matrix in enumerate(led):
            many = rank_of(matrix, net.prime)
            self.assertEqual(book[0][room], many)
            self.assertEqual(rank_of(way[room], net.prime), many)
            self.assertEqual(rank_of(lined_up(matrix, way[room]), net.prime), many)

    def is_left(self, net, one, other, led):
        book, way = left(net, one, other, led)
        self.is_made_book(net, book)
        self.is_made_map(net, other, book, way)
        for room, matrix in enumerate(led):
            many = other[0][room] - rank_of(matrix, net.prime)
            self.assertEqual(book[0][room], many)
            self.assertEqual(rank_of(way[room], net.prime), many)
            self.assertEqual(times_by(way[room], matrix, net.prime), empty(many, matrix[1]))


class CutsTest(CutChecks, unittest.TestCase):

    def test_over_all_nets(self):
        for net, one, other, led in samples():
            self.is_killed(net, one, other, led)
            self.is_hit(net, one, other, led)
            self.is_left(net, one, other, led)

    def test_all_small_maps(self):
        net = Net(2, ((0, 1), (1, 0)))
        books = [drawn_book(net, heap, seed) for seed, heap in enumerate([(1, 1), (2, 1), (2, 2)])]
        for one in books:
            for other in books:
                for led in all_maps(net, one, other):
                    self.is_killed(net, one, other, led)
                    self.is_hit(net, one, other, led)
                    self.is_left(net, one, other, led)

    def test_great_ones(self):
        net = Net(3, ((0, 1), (2, 1), (1, 2), (0, 1)), prime=97)
        one, other = drawn_book(net, (12, 12, 6), 1), drawn_book(net, (6, 12, 12), 2)
        for first, second in [(one, other), (other, one), (one, one)]:
            for led in some_maps(net, first, second):
                self.is_killed(net, first, second, led)
                self.is_hit(net, first, second, led)
                self.is_left(net, first, second, led)

    def test_of_noughts(self):
        for net in book_nets():
            for one in some_books(net):
                for other in some_books(net):
                    led = nought_map(one, other)
                    self.assertEqual(killed(net, one, other, led)[0][0], one[0])
                    self.assertEqual(hit(net, one, other, led), (nought_book(net), nought_map(nought_book(net), other)))
                    self.assertEqual(left(net, one, other, led)[0][0], other[0])

    def test_of_ones(self):
        for net in book_nets():
            for one in some_books(net):
                nought = nought_book(net)
                self.assertEqual(killed(net, one, one, ones_map(one)), (nought, nought_map(nought, one)))
                self.assertEqual(left(net, one, one, ones_map(one)), (nought, nought_map(one, nought)))
                self.assertEqual(hit(net, one, one, ones_map(one))[0][0], one[0])

    def test_by_hand(self):
        # Over one arrow by 3: the book of ones at 2 and 2, led to that of 1 and 1 by the sum of both.
        net = Net(2, ((0, 1),), prime=3)
        one = ((2, 2), ((2, 2, ((1, 0), (0, 1))),))
        other = ((1, 1), ((1, 1, ((1,),)),))
        led = ((1, 2, ((1, 1),)), (1, 2, ((1, 1),)))
        book, way = killed(net, one, other, led)
        self.assertEqual(book[0], (1, 1))
        self.assertNotEqual(book[1], ((1, 1, ((0,),)),))
        for matrix in way:
            self.assertIn(matrix, [(2, 1, ((1,), (2,))), (2, 1, ((2,), (1,)))])
        book, way = hit(net, one, other, led)
        self.assertEqual(book[0], (1, 1))
        self.assertNotEqual(book[1], ((1, 1, ((0,),)),))
        self.assertEqual(left(net, one, other, led), (nought_book(net), nought_map(other, nought_book(net))))

    def test_told_twice_the_same(self):
        for net, one, other, led in samples():
            for cut in CUTS:
                kept = repr((one, other, led))
                told = cut(net, one, other, led)
                self.assertIs(type(told), tuple)
                self.assertEqual(cut(net, one, other, led), told)
                self.assertEqual(repr((one, other, led)), kept)

    def test_refusals_in_their_order(self):
        way = ones_map(BOOK)
        for cut in CUTS:
            for thing in NO_BOOKS:
                self.refused(NoBook, cut, NET, thing, BOOK, way)
                self.refused(NoBook, cut, NET, BOOK, thing, way)
                self.refused(NoBook, cut, NET, BOOK, thing, None)
                self.refused(NoBook, cut, NET, thing, BOOK, None)
            for thing in otherwise(way, 5) + NO_MATRICES + [changed(way, 0, 0, 0, 5), changed(way, 1, 0, 0, 5)]:
                self.refused(NoMap, cut, NET, BOOK, BOOK, thing)
            nought = nought_book(NET)
            self.refused(NoMap, cut, NET, BOOK, nought, nought_map(nought, BOOK))
            self.refused(NoMap, cut, NET, nought, BOOK, nought_map(BOOK, nought))


class ArrowsHitTest(CutChecks, unittest.TestCase):

    def is_hit_by_arrows(self, net, book):
        inner, way = arrows_hit(net, book)
        self.is_made_book(net, inner)
        self.is_made_map(net, inner, book, way)
        for room, many in enumerate(book[0]):
            columns = empty(many, 0)
            for (begin, end), matrix in zip(net.arrows, book[1]):
                if end == room:
                    columns = lined_up(columns, matrix)
            rank = rank_of(columns, net.prime)
            self.assertEqual(inner[0][room], rank)
            self.assertEqual(rank_of(way[room], net.prime), rank)
            self.assertEqual(rank_of(lined_up(columns, way[room]), net.prime), rank)

    def test_over_all_nets(self):
        for net in book_nets():
            for book in some_books(net, 4, 6):
                self.is_hit_by_arrows(net, book)

    def test_great_ones(self):
        for prime in [2, 97]:
            net = Net(3, ((0, 1), (2, 1), (1, 2), (0, 1)) * 3, prime=prime)
            for heap in [(12, 12, 6), (6, 12, 12), (1, 12, 12)]:
                self.is_hit_by_arrows(net, drawn_book(net, heap))

    def test_a_room_that_no_arrow_comes_to(self):
        net = Net(3, ((0, 1), (0, 1)), prime=3)
        for seed in range(5):
            inner, way = arrows_hit(net, drawn_book(net, (3, 3, 3), seed))
            self.assertEqual((inner[0][0], inner[0][2]), (0, 0))
            self.assertEqual((way[0], way[2]), (empty(3, 0), empty(3, 0)))
        self.assertEqual(arrows_hit(Net(1, ()), ((5,), ())), (((0,), ()), (empty(5, 0),)))

    def test_several_arrows_to_one_room(self):
        # By two arrows the two columns of ones are hit, either arrow hits but one.
        net = Net(2, ((0, 1), (0, 1)), prime=3)
        book = ((1, 2), ((2, 1, ((1,), (0,))), (2, 1, ((0,), (2,)))))
        inner, way = arrows_hit(net, book)
        self.assertEqual(inner[0], (0, 2))
        self.assertEqual(rank_of(way[1], 3), 2)
        same = ((1, 2), ((2, 1, ((1,), (2,))), (2, 1, ((2,), (1,)))))
        self.assertEqual(arrows_hit(net, same)[0][0], (0, 1))

    def test_noughts_at_the_arrows(self):
        for net in book_nets():
            heap = drawn_heap(net, 4)
            book = bare_book(net, heap)
            nought = nought_book(net)
            self.assertEqual(arrows_hit(net, book), (nought, nought_map(nought, book)))

    def test_round_a_ring(self):
        net = Net(3, ((0, 1), (1, 2), (2, 0)), prime=2)
        book = ((2, 2, 2), (unit(2), unit(2), (2, 2, ((1, 1), (0, 0)))))
        self.is_hit_by_arrows(net, book)
        self.assertEqual(arrows_hit(net, book)[0][0], (1, 2, 2))

    def test_told_twice_the_same(self):
        for net in book_nets():
            for book in some_books(net):
                kept = repr(book)
                self.assertEqual(arrows_hit(net, book), arrows_hit(net, book))
                self.assertEqual(repr(book), kept)

    def test_no_book(self):
        for thing in NO_BOOKS:
            self.refused(NoBook, arrows_hit, NET, thing)


if __name__ == "__main__":
    unittest.main()
