import itertools
import unittest

from rootrooms.between import maps
from rootrooms.books import nought_book
from rootrooms.errors import NoBook
from rootrooms.nets import Net
from rootrooms.ties import ties
from tests.shelf import (
    BOOK, NET, NO_BOOKS, BookChecks, all_maps, all_undone, alone_book, arrow_sizes, bare_book, book_nets, drawn_book,
    form_of, mixed_book, ones_map, rank_of_all, some_books, summed,
)


class MapsTest(BookChecks, unittest.TestCase):

    def is_all(self, net, one, other):
        """The maps told are maps, none a sum of times of the others, and as many as all maps ask for."""
        told = maps(net, one, other)
        self.assertIs(type(told), list)
        for thing in told:
            self.is_made_map(net, one, other, thing)
        self.assertEqual(rank_of_all(told, net.prime), len(told))
        places = sum(a * b for a, b in zip(one[0], other[0]))
        self.assertEqual(len(told), places - rank_of_all(all_undone(net, one, other), net.prime))

    def test_over_all_nets(self):
        for net in book_nets():
            books = some_books(net)
            for one, other in itertools.product(books, repeat=2):
                self.is_all(net, one, other)

    def test_all_small_maps(self):
        for net in [Net(2, ((0, 1),)), Net(2, ((0, 1), (1, 0))), Net(3, ((0, 1), (2, 1)), prime=2), Net(1, (), prime=3),
                    Net(2, ((1, 0), (1, 0)), prime=3), Net(3, ((0, 1), (1, 2), (2, 0)))]:
            heaps = [(1,) * net.rooms, (2,) + (1,) * (net.rooms - 1), (1,) * (net.rooms - 1) + (2,)]
            books = [drawn_book(net, heap, seed) for seed, heap in enumerate(heaps)] + [bare_book(net, heaps[0])]
            for one, other in itertools.product(books, repeat=2):
                told = maps(net, one, other)
                found = all_maps(net, one, other)
                self.assertEqual(net.prime ** len(told), len(found))
                # Each map in just one way: all sums of times are unlike, and they are all maps.
                sums = set()
                for many in itertools.product(range(net.prime), repeat=len(told)):
                    sums.add(tuple(
                        tuple(tuple(sum(x * thing[room][2][i][k] for x, thing in zip(many, told)) % net.prime
                                    for k in range(one[0][room])) for i in range(other[0][room]))
                        for room in range(net.rooms)))
                self.assertEqual(sums, {tuple(matrix[2] for matrix in thing) for thing in found})

    def test_by_hand(self):
        net = Net(2, ((0, 1),), prime=97)
        one = ((1, 1), ((1, 1, ((1,),)),))
        self.assertEqual(len(maps(net, one, one)), 1)
        self.assertEqual([len(maps(net, alone_book(net, 1), one)), len(maps(net, one, alone_book(net, 1)))], [1, 0])
        self.assertEqual([len(maps(net, alone_book(net, 0), one)), len(maps(net, one, alone_book(net, 0)))], [0, 1])
        bare = bare_book(net, (1, 1))
        self.assertEqual([len(maps(net, one, bare)), len(maps(net, bare, one)), len(maps(net, bare, bare))], [1, 1, 2])
        ringed = Net(2, ((0, 1), (1, 0)), prime=3)
        three = ((1, 1), ((1, 1, ((1,),)), (1, 1, ((2,),))))
        self.assertEqual(len(maps(ringed, three, three)), 1)
        self.assertEqual(len(maps(ringed, three, ((1, 1), ((1, 1, ((1,),)), (1, 1, ((1,),)))))), 0)

    def test_nought_books(self):
        for net in book_nets():
            nought = nought_book(net)
            self.assertEqual(maps(net, nought, nought), [])
            for book in some_books(net):
                self.assertEqual(maps(net, nought, book), [])
                self.assertEqual(maps(net, book, nought), [])

    def test_ones_and_contraries_are_sums_of_them(self):
        for net in book_nets():
            for one in some_books(net):
                other, way = mixed_book(net, one)
                for thing, target in [(ones_map(one), one), (way, other)]:
                    told = maps(net, one, target)
                    self.assertEqual(rank_of_all(told + [thing], net.prime), len(told))
                    if any(one[0]):
                        self.assertGreater(len(told), 0)

    def test_great_ones(self):
        for prime in [2, 97]:
            net = Net(3, ((0, 1), (1, 2), (2, 0), (0, 1)) * 3, prime=prime)
            one, other = drawn_book(net, (12, 12, 6)), drawn_book(net, (6, 12, 12))
            for first, second in [(one, other), (one, one), (one, bare_book(net, (6, 12, 12)))]:
                told = maps(net, first, second)
                for thing in told[:3] + [summed(told, list(zip(second[0], first[0])), prime)]:
                    self.is_made_map(net, first, second, thing)
                self.assertEqual(len(told) - len(ties(net, first, second)), form_of(net, first[0], second[0]))
            self.assertEqual(len(maps(net, bare_book(net, one[0]), bare_book(net, other[0]))), 72 + 144 + 72)

    def test_maps_less_ties_are_the_form(self):
        for net in book_nets():
            books = some_books(net, 4, 4)
            for one, other in itertools.product(books, repeat=2):
                many = len(maps(net, one, other)) - len(ties(net, one, other))
                self.assertEqual(many, form_of(net, one[0], other[0]))
                self.assertLessEqual(len(ties(net, one, other)),
                                     sum(a * b for a, b in arrow_sizes(net, one[0], other[0])))

    def test_a_told_list_is_the_askers_own(self):
        for net in book_nets():
            for one in some_books(net):
                kept = repr(one)
                told = maps(net, one, one)
                again = list(told)
                told.reverse()
                told.append(None)
                del told[0]
                self.assertEqual(maps(net, one, one), again)
                self.assertEqual(repr(one), kept)

    def test_refusals_in_their_order(self):
        for thing in NO_BOOKS:
            self.refused(NoBook, maps, NET, thing, BOOK)
            self.refused(NoBook, maps, NET, BOOK, thing)


if __name__ == "__main__":
    unittest.main()
