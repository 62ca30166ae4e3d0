import itertools
import unittest

from rootrooms.between import maps
from rootrooms.books import joined, nought_book
from rootrooms.errors import NoBook, NoCounts, NoRoot
from rootrooms.nets import Net
from rootrooms.parts import alike, book_of, is_counts, part, parts
from rootrooms.roots import roots
from tests.few import (
    ANYTHING, GREAT_SHAPES, SHAPES, SMALL_SHAPES, FewChecks, added, drawn_counts, fit_heap, heap_told,
    many_maps_told, mixed, nets_of, units,
)
from tests.samples import FEW_PIECES, chance_of, shuffled
from tests.shelf import NO_BOOKS, alone_book, bare_book, drawn_book, drawn_heap, form_of, no_books, ones_map

NET = Net(3, ((0, 1), (2, 1)), prime=5)
NO_ROOTS = [
    (0, 0, 0), (0, 0, 2), (1, 1, 2), (2, 2, 2), (1, 2, 1), (1, 0, 1), (0, 0, 13), (0, 0, -1), (0, 0), (0, 0, 1, 0),
    (0, 0, True), (False, 0, 1), (0, 0, "1"), [0, 0, 1], ((0, 0, 1),), (12, 12, 12),
]


class PartTest(FewChecks, unittest.TestCase):

    def is_part(self, net, root):
        book = part(net, root)
        self.is_made_book(net, book)
        self.assertEqual(book[0], root)
        # There are maps from which all come in one way: one, and the ones are no noughts.
        self.assertEqual(len(maps(net, book, book)), 1)
        return book

    def test_by_hand(self):
        self.assertEqual(part(Net(1, ()), (1,)), ((1,), ()))
        for root in roots(NET):
            book = part(NET, root)
            for matrix in book[1]:
                if matrix[:2] == (1, 1):
                    self.assertNotEqual(matrix[2], ((0,),))
        for net in nets_of(SHAPES):
            for room, root in enumerate(units(net)):
                self.assertEqual(part(net, root), alone_book(net, room))

    def test_every_root_of_each_kind(self):
        for _, many, arrows in FEW_PIECES:
            for seed, prime in enumerate([2, 97, 3]):
                net = shuffled(many, arrows, prime, seed)
                some = roots(net)
                for root in some if many < 7 else some[seed::5]:
                    self.is_part(net, root)

    def test_all_maps_to_itself_counted_otherwise(self):
        for net in nets_of(SHAPES):
            for root in roots(net)[::3]:
                book = self.is_part(net, root)
                self.assertEqual(many_maps_told(net, book, book), 1)

    def test_nets_of_several_pieces(self):
        net = Net(7, ((0, 1), (4, 3), (3, 5), (3, 6)), prime=3)
        for root in roots(net):
            self.is_part(net, root)

    def test_the_same_for_equal_nets(self):
        for net in nets_of(SHAPES + GREAT_SHAPES):
            same = Net(net.rooms, tuple((begin, end) for begin, end in net.arrows), prime=net.prime)
            for root in roots(net)[::9]:
                told = part(net, root)
                self.assertEqual(part(net, root), told)
                self.assertEqual(part(same, tuple(list(root))), told)

    def test_refusals(self):
        for thing in NO_ROOTS + ANYTHING:
            self.refused(NoRoot, part, NET, thing)
        for thing in NO_ROOTS + ANYTHING + [(1, 0), (1, 0, 0)]:
            self.not_few(part, thing)


class CountsTest(FewChecks, unittest.TestCase):

    def test_counts(self):
        for counts in [(), (((0, 0, 1), 1),), (((0, 0, 1), 12),), (((0, 1, 1), 12),), (((1, 1, 1), 10),),
                       (((0, 0, 1), 2), ((0, 1, 0), 3), ((1, 1, 1), 7)), (((0, 0, 1), 11), ((1, 1, 1), 1))]:
            self.assertIs(is_counts(NET, counts), True)
        for net in nets_of(SHAPES):
            for seed in range(3):
                self.assertIs(is_counts(net, drawn_counts(net, seed=seed)), True)
            self.assertIs(is_counts(net, tuple((root, 1) for root in sorted(units(net)))), True)

    def wrong_counts(self):
        good = (((0, 0, 1), 2), ((0, 1, 1), 1))
        first, last = good
        found = [list(good), (last, first), (first, first), (first, last, last), good + ((),), good + (None,), (good,)]
        found += [((first[0], many), last) for many in [0, -1, True, False, None, "1", (1,), [2], 13, 12, 10 ** 6000]]
        found += [(first, (root, 1)) for root in NO_ROOTS + ANYTHING]
        found += [(list(first), last), (first + (1,), last), (first[:1], last), (first[::-1], last), ((), last)]
        # Each is a root, but together they come to no heap.
        found += [(((0, 0, 1), 13),), (((0, 0, 1), 12), ((0, 1, 1), 1)), (((1, 1, 1), 11),),
                  (((0, 0, 1), 10), ((0, 1, 0), 10), ((1, 0, 0), 11))]
        return found + [thing for thing in ANYTHING if thing != ()]

    def test_one_thing_otherwise_and_anything(self):
        for thing in self.wrong_counts():
            self.assertIs(is_counts(NET, thing), False)
            self.refused(NoCounts, book_of, NET, thing)
        # Counts over another net.
        self.assertIs(is_counts(Net(3, ()), (((1, 1, 0), 1),)), False)
        self.assertIs(is_counts(Net(2, ((0, 1),)), (((1, 1, 0), 1),)), False)

    def test_not_few(self):
        for thing in self.wrong_counts() + [(), (((1, 0), 1),)]:
            self.not_few(is_counts, thing)
            self.not_few(book_of, thing)

    def test_what_is_handed_in_is_as_it_was(self):
        thing = (((0, 0, 1), 2), [(0, 1, 1), 1])
        self.refused(NoCounts, book_of, NET, thing)
        self.assertEqual(thing, (((0, 0, 1), 2), [(0, 1, 1), 1]))

    def test_the_book_of_counts(self):
        for net in nets_of(SHAPES):
            self.assertEqual(book_of(net, ()), nought_book(net))
            for seed in range(3):
                counts = drawn_counts(net, seed=seed)
                book = book_of(net, counts)
                self.is_made_book(net, book)
                self.assertEqual(book, joined(net, [part(net, root) for root, many in counts for _ in range(many)]))
                self.assertEqual(book[0], heap_told(net, counts))


class PartsTest(FewChecks, unittest.TestCase):

    def is_parted(self, net, book, expected=None):
        kept = repr(book)
        told = parts(net, book)
        self.assertIs(type(told), tuple)
        counts, there, back = told
        self.assertIs(is_counts(net, counts), True)
        if expected is not None:
            self.assertEqual(counts, expected)
        self.are_contrary(net, book_of(net, counts), book, there, back)
        self.assertEqual(parts(net, book), told)
        self.assertEqual(repr(book), kept)
        return counts

    def test_of_the_parts_themselves(self):
        for net in nets_of(SHAPES + GREAT_SHAPES[2:3]):
            for root in roots(net)[::2]:
                self.is_parted(net, part(net, root), ((root, 1),))

    def test_of_the_nought_book(self):
        for net in nets_of(SHAPES):
            self.assertEqual(self.is_parted(net, nought_book(net)), ())

    def test_of_joined_parts_in_any_order_and_mixed(self):
        for net in nets_of(SHAPES, 2):
            for seed in range(2):
                counts = drawn_counts(net, 4, 3, seed)
                some = [part(net, root) for root, many in counts for _ in range(many)]
                chance_of(seed).shuffle(some)
                book = joined(net, some)
                self.is_parted(net, book, counts)
                self.is_parted(net, mixed(net, book, seed), counts)

    def test_of_drawn_and_bare_books(self):
        for net in nets_of(SHAPES):
            for seed in range(3):
                heap = fit_heap(net, drawn_heap(net, 4, seed))
                self.is_parted(net, drawn_book(net, heap, seed))
                self.is_parted(net, bare_book(net, heap),
                               tuple(sorted((root, many) for root, many in zip(units(net), heap) if many)))

    def test_of_great_books(self):
        for net in nets_of(GREAT_SHAPES):
            counts = drawn_counts(net, 5, 3)
            self.is_parted(net, mixed(net, book_of(net, counts)), counts)
            self.is_parted(net, drawn_book(net, fit_heap(net, drawn_heap(net, 4))))
        net = Net(3, ((0, 1), (1, 2)), prime=97)
        self.is_parted(net, drawn_book(net, (12, 12, 6)))
        net = Net(2, ((0, 1),), prime=2)
        self.is_parted(net, drawn_book(net, (12, 12)))
        self.is_parted(Net(1, ()), ((12,), ()), (((1,), 12),))

    def test_how_often_a_part_stands_is_told_by_ranks_in_a_row(self):
        # Over one arrow: as often as the rank both rooms' part, what is left of each room alone.
        for prime in [2, 3, 97]:
            net = Net(2, ((1, 0),), prime=prime)
            for rank in range(4):
                matrix = (3, 4, tuple(tuple(int(i == k < rank) for k in range(4)) for i in range(3)))
                expected = [((0, 1), 4 - rank), ((1, 0), 3 - rank), ((1, 1), rank)]
                book = mixed(net, ((3, 4), (matrix,)), rank)
                self.is_parted(net, book, tuple(pair for pair in expected if pair[1]))

    def test_maps_and_forms_of_parts_tell_the_counts(self):
        for net in nets_of(SMALL_SHAPES):
            book = drawn_book(net, drawn_heap(net, 3, 1), 1)
            counts = parts(net, book)[0]
            for root in roots(net):
                expected = sum(many * max(0, form_of(net, root, other)) for other, many in counts)
                self.assertEqual(many_maps_told(net, part(net, root), book), expected)

    def test_refusals(self):
        for thing in NO_BOOKS:
            self.refused(NoBook, parts, NET, thing)
        book = drawn_book(NET, (1, 2, 1))
        for thing in no_books(NET, book):
            self.refused(NoBook, parts, NET, thing)
            self.refused(NoBook, alike, NET, thing, book)
            self.refused(NoBook, alike, NET, book, thing)
            self.refused(NoBook, alike, NET, thing, None)
        for thing in ANYTHING + [nought_book(Net(2, ((0, 1), (1, 0)))), book]:
            self.not_few(parts, thing)
            self.not_few(alike, thing, thing)


class AlikeTest(FewChecks, unittest.TestCase):

    def is_told(self, net, one, other, counts, others):
        """What alike tells of books of these counts is so."""
        told = alike(net, one, other)
        self.assertIs(type(told), tuple)
        if counts == others:
            word, there, back = told
            self.assertEqual(word, "alike")
            self.are_contrary(net, one, other, there, back)
        else:
            every = sorted({root for root, _ in counts + others})
            many, more = dict(counts), dict(others)
            first = next(root for root in every if many.get(root, 0) != more.get(root, 0))
            self.assertEqual(told, ("unlike", first, many.get(first, 0), more.get(first, 0)))
        return told[0]

    def test_over_all_nets(self):
        words = []
        for net in nets_of(SHAPES + GREAT_SHAPES[:2]):
            some = [drawn_counts(net, 3, 2, seed) for seed in range(3)] + [()]
            for (at, counts), (to, others) in itertools.product(enumerate(some), repeat=2):
                one, other = mixed(net, book_of(net, counts), at), mixed(net, book_of(net, others), to + 10)
                words.append(self.is_told(net, one, other, counts, others))
        self.assertEqual(set(words), {"alike", "unlike"})

    def test_one_heap_unlike_counts(self):
        net = Net(3, ((0, 1), (2, 1)), prime=3)
        split = (((0, 0, 1), 1), ((0, 1, 0), 1), ((1, 0, 0), 1))
        half, other_half = (((0, 0, 1), 1), ((1, 1, 0), 1)), (((0, 1, 1), 1), ((1, 0, 0), 1))
        whole = (((1, 1, 1), 1),)
        expected = {
            (split, half): ("unlike", (0, 1, 0), 1, 0), (half, split): ("unlike", (0, 1, 0), 0, 1),
            (split, other_half): ("unlike", (0, 0, 1), 1, 0), (half, other_half): ("unlike", (0, 0, 1), 1, 0),
            (whole, half): ("unlike", (0, 0, 1), 0, 1), (split, whole): ("unlike", (0, 0, 1), 1, 0),
            (other_half, whole): ("unlike", (0, 1, 1), 1, 0),
        }
        for (one, other), told in expected.items():
            self.assertEqual(alike(net, mixed(net, book_of(net, one), 1), mixed(net, book_of(net, other), 2)), told)
        # The number of times, not only the root, may be unlike.
        double = added(split, (((0, 0, 1), 2),))
        self.assertEqual(alike(net, book_of(net, split), book_of(net, double)), ("unlike", (0, 0, 1), 1, 3))

    def test_a_book_is_alike_itself_and_what_it_is_made_of(self):
        for net in nets_of(SHAPES):
            book = drawn_book(net, fit_heap(net, drawn_heap(net, 3)))
            self.assertEqual(alike(net, book, book)[0], "alike")
            self.is_undone(*alike(net, book, book)[1:], net.prime)
            self.assertEqual(alike(net, book, book_of(net, parts(net, book)[0]))[0], "alike")
        nothing = nought_book(NET)
        self.assertEqual(alike(NET, nothing, nothing), ("alike", ones_map(nothing), ones_map(nothing)))


if __name__ == "__main__":
    unittest.main()
