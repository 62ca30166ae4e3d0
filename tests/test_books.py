import itertools
import unittest

from rootrooms.books import alone, followed, is_book, is_map, joined, nought_book, ones_of, undone
from rootrooms.errors import NoBook, NoMap, NoRoom, TooGreat
from rootrooms.nets import Net
from tests.samples import all_matrices, drawn, empty, rank_of, times_by, unit
from tests.shelf import (
    BOOK, NET, NO_BOOKS, BookChecks, all_maps, bare_book, book_nets, changed, drawn_book, drawn_heap, is_map_of,
    mixed_book, no_books, nought_map, ones_map, otherwise, some_books,
)
from tests.things import NO_MATRICES, NO_WHOLES, VERY_LONG


class IsBookTest(BookChecks, unittest.TestCase):

    def test_books(self):
        self.is_made_book(NET, BOOK)
        for net in book_nets():
            for book in some_books(net):
                self.is_made_book(net, book)

    def test_great_books(self):
        for heap in [(12, 12, 6), (6, 12, 12), (10, 10, 10), (12, 0, 12)]:
            self.is_made_book(NET, drawn_book(NET, heap))
        for heap in [(13, 0, 0), (12, 12, 7), (11, 10, 10)]:
            self.assertIs(is_book(NET, drawn_book(NET, heap)), False)

    def test_the_prime_counts(self):
        for prime in [2, 3, 5, 7]:
            net = Net(3, NET.arrows, prime=prime)
            self.assertIs(is_book(net, BOOK), prime > 4)

    def test_over_another_net(self):
        self.assertIs(is_book(Net(3, NET.arrows[:3], prime=5), BOOK), False)
        self.assertIs(is_book(Net(3, NET.arrows + ((0, 2),), prime=5), BOOK), False)
        self.assertIs(is_book(Net(3, NET.arrows[::-1], prime=5), BOOK), False)
        self.assertIs(is_book(Net(4, NET.arrows, prime=5), BOOK), False)
        # Turned over at rooms of one number each, the arrow leads the same size of space to the same.
        self.assertIs(is_book(Net(3, ((0, 1), (1, 2), (0, 1), (2, 0)), prime=5), BOOK), True)

    def test_one_thing_otherwise_and_anything(self):
        for thing in NO_BOOKS:
            self.assertIs(is_book(NET, thing), False)
        for net in book_nets():
            for book in some_books(net):
                for thing in no_books(net, book):
                    self.assertIs(is_book(net, thing), False)


class NoughtBookAndAloneTest(BookChecks, unittest.TestCase):

    def test_by_hand(self):
        self.assertEqual(nought_book(NET), ((0, 0, 0), ((0, 0, ()),) * 4))
        self.assertEqual(alone(NET, 0), ((1, 0, 0), ((0, 1, ()), (0, 0, ()), (0, 1, ()), (1, 0, ((),)))))
        self.assertEqual(alone(NET, 1), ((0, 1, 0), ((1, 0, ((),)), (1, 0, ((),)), (1, 0, ((),)), (0, 0, ()))))
        self.assertEqual(nought_book(Net(1, ())), ((0,), ()))
        self.assertEqual(alone(Net(1, ()), 0), ((1,), ()))

    def test_over_any_net(self):
        for net in book_nets():
            self.is_made_book(net, nought_book(net))
            self.assertEqual(nought_book(net), bare_book(net, (0,) * net.rooms))
            for room in range(net.rooms):
                book = alone(net, room)
                self.is_made_book(net, book)
                self.assertEqual(book, bare_book(net, tuple(int(k == room) for k in range(net.rooms))))

    def test_alone_in_no_room(self):
        for thing in NO_WHOLES + [-1, 3, 8, VERY_LONG, -VERY_LONG]:
            self.refused(NoRoom, alone, NET, thing)
        self.refused(NoRoom, alone, Net(1, ()), 1)


class JoinedTest(BookChecks, unittest.TestCase):

    def test_by_hand(self):
        net = Net(2, ((0, 1), (1, 0)), prime=5)
        one = ((1, 2), ((2, 1, ((1,), (2,))), (1, 2, ((3, 4),))))
        other = ((2, 1), ((1, 2, ((4, 3),)), (2, 1, ((2,), (1,)))))
        self.assertEqual(joined(net, [one, other]), ((3, 3), (
            (3, 3, ((1, 0, 0), (2, 0, 0), (0, 4, 3))), (3, 3, ((3, 4, 0), (0, 0, 2), (0, 0, 1))))))
        self.assertEqual(joined(net, [other, one]), ((3, 3), (
            (3, 3, ((4, 3, 0), (0, 0, 1), (0, 0, 2))), (3, 3, ((2, 0, 0), (1, 0, 0), (0, 3, 4))))))

    def test_of_none_and_of_one(self):
        for net in book_nets():
            self.assertEqual(joined(net, []), nought_book(net))
            for book in some_books(net):
                self.assertEqual(joined(net, [book]), book)
                self.assertEqual(joined(net, [nought_book(net), book, nought_book(net)]), book)

    def test_number_by_number(self):
        for net in book_nets():
            for books in [some_books(net), some_books(net)[::-1], some_books(net, 2, 4)]:
                told = joined(net, books)
                self.is_made_book(net, told)
                self.assertEqual(told[0], tuple(map(sum, zip(*[book[0] for book in books]))))
                for arrow, (begin, end) in enumerate(net.arrows):
                    rest = [list(line) for line in told[1][arrow][2]]
                    row = column = 0
                    for heap, maps in books:
                        for i, k in itertools.product(range(heap[end]), range(heap[begin])):
                            self.assertEqual(rest[row + i][column + k], maps[arrow][2][i][k])
                            rest[row + i][column + k] = 0
                        row += heap[end]
                        column += heap[begin]
                    self.assertFalse(any(any(line) for line in rest))

    def test_too_great(self):
        six = drawn_book(NET, (6, 0, 3))
        self.is_made_book(NET, joined(NET, [six, six]))
        self.refused(TooGreat, joined, NET, [six, six, alone(NET, 0)])
        self.refused(TooGreat, joined, NET, [alone(NET, 0)] * 13)
        self.is_made_book(NET, joined(NET, [alone(NET, 1)] * 12))
        great = drawn_book(NET, (12, 11, 6))
        self.is_made_book(NET, joined(NET, [great, alone(NET, 1)]))
        self.refused(TooGreat, joined, NET, [great, alone(NET, 0)])
        self.refused(TooGreat, joined, NET, [great, alone(NET, 1), alone(NET, 2)])
        self.refused(TooGreat, joined, NET, [great, alone(NET, 2), alone(NET, 2)])
        self.refused(TooGreat, joined, NET, [great, great])
        self.refused(TooGreat, joined, Net(1, ()), [((12,), ()), ((1,), ())])
        self.is_made_book(NET, joined(NET, [nought_book(NET)] * 500))

    def test_no_book_at_any_place(self):
        great = drawn_book(NET, (12, 12, 6))
        for thing in NO_BOOKS:
            for books in [[thing], [BOOK, thing], [thing, BOOK], [BOOK, thing, BOOK], [great, great, thing]]:
                self.refused(NoBook, joined, NET, books)
        for thing in [None, True, 0, "", "ab", (), (BOOK,), BOOK, (BOOK, BOOK)]:
            self.refused(NoBook, joined, NET, thing)

    def test_what_is_handed_in_is_as_it_was(self):
        books = [BOOK, BOOK, BOOK]
        told = joined(NET, books)
        kept = repr(told)
        self.assertEqual(books, [BOOK] * 3)
        books.clear()
        self.assertEqual(repr(told), kept)
        self.assertEqual(joined(NET, [BOOK] * 3), told)
        books = [BOOK, [1, [2]]]
        self.refused(NoBook, joined, NET, books)
        self.assertEqual(books, [BOOK, [1, [2]]])


class IsMapTest(BookChecks, unittest.TestCase):

    def test_maps(self):
        for net in book_nets():
            for one in some_books(net):
                self.is_made_map(net, one, one, ones_map(one))
                other, way = mixed_book(net, one)
                self.is_made_map(net, one, other, way)
                for third in some_books(net):
                    self.is_made_map(net, one, third, nought_map(one, third))

    def test_matrices_by_chance(self):
        seen = set()
        for net in book_nets():
            for one in some_books(net, 2):
                for other in some_books(net, 2):
                    for seed in range(3):
                        thing = tuple(drawn(rows, columns, net.prime, (seed, room))
                                      for room, (rows, columns) in enumerate(zip(other[0], one[0])))
                        expected = is_map_of(net, one, other, thing)
                        self.assertIs(is_map(net, one, other, thing), expected)
                        seen.add(expected)
        self.assertEqual(seen, {True, False})

    def test_all_small_matrices(self):
        net = Net(2, ((0, 1),))
        for one, other in itertools.product([drawn_book(net, heap) for heap in [(1, 1), (2, 1), (1, 2)]], repeat=2):
            found = all_maps(net, one, other)
            choices = [all_matrices(rows, columns, 2) for rows, columns in zip(other[0], one[0])]
            for thing in itertools.product(*choices):
                self.assertIs(is_map(net, one, other, thing), thing in found)

    def test_one_number_otherwise(self):
        one = ((2, 2), ((2, 2, ((1, 0), (0, 1))),))
        net = Net(2, ((0, 1),), prime=3)
        for room, row, column in itertools.product(range(2), repeat=3):
            self.assertIs(is_map(net, one, one, changed(ones_map(one), room, row, column, 3)), False)

    def test_one_thing_otherwise_and_anything(self):
        for net in book_nets():
            for book in some_books(net):
                for thing in otherwise(ones_map(book), net.prime):
                    self.assertIs(is_map(net, book, book, thing), False)
        for thing in NO_MATRICES:
            self.assertIs(is_map(NET, BOOK, BOOK, thing), False)
            self.assertIs(is_map(NET, BOOK, BOOK, (thing,) * 3), False)
            self.assertIs(is_map(NET, BOOK, BOOK, ones_map(BOOK)[:2] + (thing,)), False)
        self.assertIs(is_map(NET, BOOK, nought_book(NET), ones_map(BOOK)), False)
        self.assertIs(is_map(NET, nought_book(NET), BOOK, ones_map(BOOK)), False)

    def test_refusals_in_their_order(self):
        for thing in NO_BOOKS:
            self.refused(NoBook, is_map, NET, thing, BOOK, ones_map(BOOK))
            self.refused(NoBook, is_map, NET, BOOK, thing, ones_map(BOOK))
            self.refused(NoBook, is_map, NET, BOOK, thing, None)
            self.refused(NoBook, is_map, NET, thing, thing, thing)


class FollowedTest(BookChecks, unittest.TestCase):

    def test_room_by_room(self):
        for net in book_nets():
            for one in some_books(net):
                other, first = mixed_book(net, one, 1)
                third, second = mixed_book(net, other, 2)
                told = followed(net, one, other, third, first, second)
                self.is_made_map(net, one, third, told)
                self.assertEqual(told, tuple(times_by(then, led, net.prime) for led, then in zip(first, second)))
                self.assertEqual(followed(net, one, one, other, ones_map(one), first), first)
                self.assertEqual(followed(net, one, other, other, first, ones_map(other)), first)
                for fourth in some_books(net):
                    self.assertEqual(followed(net, one, other, fourth, first, nought_map(other, fourth)),
                                     nought_map(one, fourth))

    def test_through_a_nought_book(self):
        nought = nought_book(NET)
        self.assertEqual(followed(NET, BOOK, nought, BOOK, nought_map(BOOK, nought), nought_map(nought, BOOK)),
                         nought_map(BOOK, BOOK))

    def test_in_this_order(self):
        net = Net(1, (), prime=5)
        first, second = ((2, 3, ((1, 2, 3), (0, 4, 1))),), ((1, 2, ((2, 3),)),)
        self.assertEqual(followed(net, ((3,), ()), ((2,), ()), ((1,), ()), first, second), ((1, 3, ((2, 1, 4),)),))

    def test_refusals_in_their_order(self):
        way = ones_map(BOOK)
        for thing in NO_BOOKS:
            self.refused(NoBook, followed, NET, thing, BOOK, BOOK, way, way)
            self.refused(NoBook, followed, NET, BOOK, thing, BOOK, way, way)
            self.refused(NoBook, followed, NET, BOOK, BOOK, thing, way, way)
            self.refused(NoBook, followed, NET, BOOK, BOOK, thing, None, None)
        for thing in otherwise(way, 5) + NO_MATRICES + [changed(way, 0, 0, 0, 5)]:
            self.refused(NoMap, followed, NET, BOOK, BOOK, BOOK, thing, way)
            self.refused(NoMap, followed, NET, BOOK, BOOK, BOOK, way, thing)
            self.refused(NoMap, followed, NET, BOOK, BOOK, BOOK, thing, thing)
        nought = nought_book(NET)
        self.refused(NoMap, followed, NET, BOOK, nought, BOOK, nought_map(nought, BOOK), nought_map(nought, BOOK))
        self.refused(NoMap, followed, NET, BOOK, nought, BOOK, nought_map(BOOK, nought), nought_map(BOOK, nought))


class OnesOfTest(BookChecks, unittest.TestCase):

    def test_ones(self):
        self.assertEqual(ones_of(NET, BOOK), ((2, 2, ((1, 0), (0, 1))), (1, 1, ((1,),)), (1, 1, ((1,),))))
        for net in book_nets():
            for book in some_books(net):
                self.is_made_map(net, book, book, ones_of(net, book))
                self.assertEqual(ones_of(net, book), ones_map(book))

    def test_no_book(self):
        for thing in NO_BOOKS:
            self.refused(NoBook, ones_of, NET, thing)


class UndoneTest(BookChecks, unittest.TestCase):

    def test_the_contrary(self):
        for net in book_nets():
            for one in some_books(net):
                other, way = mixed_book(net, one)
                back = undone(net, one, other, way)
                self.is_made_map(net, other, one, back)
                for there, again, many in zip(way, back, one[0]):
                    self.assertEqual(times_by(there, again, net.prime), unit(many))
                    self.assertEqual(times_by(again, there, net.prime), unit(many))
                self.assertEqual(undone(net, other, one, back), way)
                self.assertEqual(undone(net, one, one, ones_map(one)), ones_map(one))

    def test_none(self):
        for net in book_nets():
            for one in some_books(net):
                for other in some_books(net):
                    told = undone(net, one, other, nought_map(one, other))
                    self.assertEqual(told, None if any(one[0]) or any(other[0]) else ((0, 0, ()),) * net.rooms)
        self.assertIsNone(undone(NET, nought_book(NET), alone(NET, 2), nought_map(nought_book(NET), alone(NET, 2))))

    def test_one_room_bars(self):
        net = Net(3, (), prime=3)
        one = ((1, 2, 2), ())
        full = ((1, 1, ((2,),)), (2, 2, ((0, 1), (1, 0))), (2, 2, ((1, 1), (0, 2))))
        self.assertIsNotNone(undone(net, one, one, full))
        for room, matrix in enumerate([empty(1, 1), (2, 2, ((1, 2), (2, 1))), (2, 2, ((0, 1), (0, 2)))]):
            self.assertIsNone(undone(net, one, one, full[:room] + (matrix,) + full[room + 1:]))

    def test_all_small_maps(self):
        net = Net(2, ((0, 1),))
        for heap in [(1, 1), (2, 1), (2, 2)]:
            book = drawn_book(net, heap)
            for way in all_maps(net, book, book):
                full = all(rank_of(matrix, 2) == matrix[0] for matrix in way)
                self.assertEqual(undone(net, book, book, way) is not None, full)

    def test_refusals_in_their_order(self):
        way = ones_map(BOOK)
        for thing in NO_BOOKS:
            self.refused(NoBook, undone, NET, thing, BOOK, way)
            self.refused(NoBook, undone, NET, BOOK, thing, way)
            self.refused(NoBook, undone, NET, BOOK, thing, None)
        for thing in otherwise(way, 5) + NO_MATRICES + [changed(way, 0, 0, 0, 5)]:
            self.refused(NoMap, undone, NET, BOOK, BOOK, thing)


class AskedTwiceTest(unittest.TestCase):

    def test_what_is_handed_in_is_as_it_was(self):
        for net in book_nets():
            one = drawn_book(net, drawn_heap(net, 3))
            other, way = mixed_book(net, one)
            kept = repr((one, other, way, net.rooms, net.arrows, net.prime))
            for _ in range(2):
                is_book(net, one)
                is_map(net, one, other, way)
                joined(net, [one, other])
                followed(net, one, one, other, ones_of(net, one), way)
                undone(net, one, other, way)
                self.assertEqual(repr((one, other, way, net.rooms, net.arrows, net.prime)), kept)


if __name__ == "__main__":
    unittest.main()
