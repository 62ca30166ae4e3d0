import itertools
import unittest

from rootrooms.between import maps
from rootrooms.errors import NoCounts, NoFit, NoHeap, TooMany
from rootrooms.nets import Net, form
from rootrooms.parted import below, heap_of, many_maps, many_ties, parted, plain
from rootrooms.parts import book_of, is_counts, parts
from rootrooms.roots import roots
from rootrooms.ties import tied, ties
from tests.few import (
    ANYTHING, GREAT_SHAPES, SHAPES, SMALL_SHAPES, FewChecks, added, drawn_counts, fit_heap, heap_told,
    many_maps_told, many_ties_told, nets_of, units,
)
from tests.samples import drawn_of_rank, fork, row, shuffled
from tests.shelf import drawn_book, drawn_heap, drawn_tie, form_of

NET = Net(3, ((0, 1), (2, 1)), prime=5)
GOOD = (((0, 0, 1), 2), ((0, 1, 1), 1))
NO_COUNTS = [thing for thing in ANYTHING if thing != ()] + [
    list(GOOD), GOOD[::-1], GOOD + ((),), (((0, 0, 1), 0),), (((0, 0, 1), True),), (((0, 0, 1), 13),),
    (((0, 0, 2), 1),), (((0, 1, 1), 1), ((0, 1, 1), 1)), ([(0, 0, 1), 1],),
]


def one_of(root):
    return ((root, 1),)


def all_counts(net, heap):
    """Return all counts with this heap, by going through every number of times of every root."""
    found = []
    some = [root for root in roots(net) if all(a <= b for a, b in zip(root, heap))]
    for many in itertools.product(*[range(min(b // a for a, b in zip(root, heap) if a) + 1) for root in some]):
        counts = tuple((root, often) for root, often in zip(some, many) if often)
        if heap_told(net, counts) == heap:
            found.append(counts)
    return sorted(found)


def small_heaps():
    """Return nets with heaps of few partings."""
    found = []
    for net in nets_of(SMALL_SHAPES):
        found += [(net, drawn_heap(net, 2, seed)) for seed in range(3)] + [(net, (0,) * net.rooms)]
        if net.rooms < 4:
            found.append((net, (3,) * net.rooms))
    return found


class CountedTest(FewChecks, unittest.TestCase):

    def test_the_heap(self):
        self.assertEqual(heap_of(NET, ()), (0, 0, 0))
        self.assertEqual(heap_of(NET, GOOD), (0, 1, 3))
        for net in nets_of(SHAPES):
            for seed in range(3):
                counts = drawn_counts(net, 4, 3, seed)
                self.assertEqual(heap_of(net, counts), book_of(net, counts)[0])
                self.assertEqual(heap_of(net, counts), heap_told(net, counts))

    def test_as_many_as_are_told_of_the_books(self):
        for net in nets_of(SHAPES) + nets_of(GREAT_SHAPES)[1::4]:
            some = [drawn_counts(net, 2, 2, seed) for seed in range(3)] + [()]
            for one, other in itertools.product(some, repeat=2):
                first, second = book_of(net, one), book_of(net, other)
                many, more = many_maps(net, one, other), many_ties(net, one, other)
                self.assertEqual(many, len(maps(net, first, second)))
                self.assertEqual(more, len(ties(net, first, second)))
                self.assertEqual(many - more, form(net, first[0], second[0]))
                self.assertEqual([type(many), type(more)], [int, int])

    def test_of_parts_counted_otherwise(self):
        for net in nets_of(SMALL_SHAPES):
            for one, other in itertools.product(roots(net), repeat=2):
                first, second = book_of(net, one_of(one)), book_of(net, one_of(other))
                self.assertEqual(many_maps(net, one_of(one), one_of(other)), many_maps_told(net, first, second))
                self.assertEqual(many_ties(net, one_of(one), one_of(other)), many_ties_told(net, first, second))

    def test_by_hand(self):
        net = Net(2, ((0, 1),), prime=3)
        begin, end, both = (1, 0), (0, 1), (1, 1)
        self.assertEqual(many_maps(net, one_of(end), one_of(both)), 1)
        self.assertEqual(many_maps(net, one_of(both), one_of(end)), 0)
        self.assertEqual(many_ties(net, ((begin, 3),), ((end, 4),)), 12)
        self.assertEqual(many_ties(net, ((end, 3),), ((begin, 4),)), 0)
        mixed = ((end, 2), (begin, 3), (both, 5))
        self.assertEqual(many_maps(net, mixed, mixed), 4 + 9 + 25 + 2 * 5 + 5 * 3)
        self.assertEqual(many_ties(net, mixed, mixed), 6)

    def test_refusals(self):
        for thing in NO_COUNTS:
            self.refused(NoCounts, heap_of, NET, thing)
            for function in [many_maps, many_ties, below]:
                self.refused(NoCounts, function, NET, thing, GOOD)
                self.refused(NoCounts, function, NET, GOOD, thing)
                self.refused(NoCounts, function, NET, thing, thing)
        for thing in NO_COUNTS + [(), (((1, 0), 1),)]:
            self.not_few(heap_of, thing)
            for function in [many_maps, many_ties, below]:
                self.not_few(function, thing, thing)


class PartedTest(FewChecks, unittest.TestCase):

    def test_all_of_small_heaps(self):
        for net, heap in small_heaps():
            self.assertEqual(parted(net, heap), all_counts(net, heap))

    def test_by_hand(self):
        self.assertEqual(parted(Net(1, ()), (3,)), [(((1,), 3),)])
        net = Net(2, ((0, 1),))
        self.assertEqual(parted(net, (2, 1)), [(((0, 1), 1), ((1, 0), 2)), (((1, 0), 1), ((1, 1), 1))])
        self.assertEqual(len(parted(net, (12, 12))), 13)

    def test_rising_each_once_of_the_heap(self):
        for net in nets_of(SHAPES + GREAT_SHAPES):
            heap = fit_heap(net, drawn_heap(net, 1, 1))
            told = parted(net, heap)
            self.assertIs(type(told), list)
            self.assertEqual(told, sorted(set(told)))
            for counts in told:
                self.assertIs(is_counts(net, counts), True)
                self.assertEqual(heap_of(net, counts), heap)

    def test_the_heap_of_noughts(self):
        for net in nets_of(SHAPES):
            self.assertEqual(parted(net, (0,) * net.rooms), [()])

    def test_at_most_three_hundred(self):
        # In a row of three rooms the roots of more than one room tell the counts.
        net = Net(3, ((0, 1), (1, 2)))
        seen = set()
        for heap in itertools.product(range(7, 13), range(8, 13), range(6, 13)):
            if sum(heap) > 30:
                continue
            many = sum(1 for both, first, last in itertools.product(range(13), repeat=3)
                       if both + first <= heap[0] and both + last <= heap[2] and both + first + last <= heap[1])
            if many > 300:
                self.refused(TooMany, parted, net, heap)
            else:
                self.assertEqual(len(parted(net, heap)), many)
            seen.add(many)
        self.assertLess(295, max(many for many in seen if many <= 300))
        self.assertGreater(305, min(many for many in seen if many > 300))

    def test_just_three_hundred(self):
        # A net of several pieces has as many as these have, one times the other.
        net = Net(6, ((0, 1), (2, 3), (5, 4)))
        self.assertEqual(len(parted(net, (4, 4, 5, 5, 9, 2))), 5 * 6 * 3)
        self.assertEqual(len(parted(net, (4, 4, 5, 5, 2, 9))), 5 * 6 * 3)
        net = Net(8, ((0, 1), (2, 3), (4, 5), (6, 7)))
        self.assertEqual(len(parted(net, (4, 4, 4, 4, 3, 3, 2, 2))), 300)
        # 7 * 3 * 3 * 5, which is 315.
        self.refused(TooMany, parted, net, (6, 6, 2, 2, 2, 2, 4, 4))

    def test_great_heaps_are_soon_refused(self):
        for net in nets_of(GREAT_SHAPES):
            heap = fit_heap(net, (4,) * net.rooms)
            self.refused(TooMany, parted, net, heap)
        self.refused(TooMany, parted, shuffled(5, row(5)), (6, 6, 6, 6, 6))
        self.refused(TooMany, parted, shuffled(4, fork(4)), (6, 12, 6, 6))

    def test_told_again_behind_a_changed_list(self):
        told = parted(NET, (1, 2, 1))
        kept = list(told)
        told.clear()
        self.assertEqual(parted(NET, (1, 2, 1)), kept)

    def test_refusals(self):
        for thing in ANYTHING + [(0, 0), (0, 0, 13), (0, 0, -1), (0, 0, True), [1, 1, 1], (12, 12, 7), GOOD]:
            self.refused(NoHeap, parted, NET, thing)
            self.refused(NoHeap, plain, NET, thing)
            self.not_few(parted, thing)
            self.not_few(plain, thing)


class PlainTest(FewChecks, unittest.TestCase):

    def test_the_one_without_ties_over_itself(self):
        for net, heap in small_heaps():
            found = [counts for counts in parted(net, heap) if many_ties(net, counts, counts) == 0]
            self.assertEqual(found, [plain(net, heap)])

    def test_of_great_heaps(self):
        for net in nets_of(SHAPES + GREAT_SHAPES, 2):
            for most in [3, 5, 12]:
                heap = fit_heap(net, drawn_heap(net, most, most))
                told = plain(net, heap)
                self.assertIs(is_counts(net, told), True)
                self.assertEqual(heap_of(net, told), heap)
                self.assertEqual(many_ties(net, told, told), 0)

    def test_by_hand(self):
        self.assertEqual(plain(NET, (0, 0, 0)), ())
        self.assertEqual(plain(NET, (1, 1, 1)), (((1, 1, 1), 1),))
        self.assertEqual(plain(NET, (1, 2, 1)), (((0, 1, 1), 1), ((1, 1, 0), 1)))
        self.assertEqual(plain(NET, (2, 1, 2)), (((0, 0, 1), 1), ((1, 0, 0), 1), ((1, 1, 1), 1)))
        self.assertEqual(plain(Net(2, ()), (3, 4)), (((0, 1), 4), ((1, 0), 3)))

    def test_of_a_root_it_is_the_root(self):
        for net in nets_of(SHAPES + GREAT_SHAPES):
            for root in roots(net):
                self.assertEqual(plain(net, root), one_of(root))

    def test_most_drawn_books_are_plain(self):
        for net in nets_of(SMALL_SHAPES)[2::3]:
            heap = drawn_heap(net, 3)
            self.assertEqual(net.prime, 97)
            maps_told = tuple(drawn_of_rank(heap[end], heap[begin], 9, 97, (begin, end)) for begin, end in net.arrows)
            self.assertEqual(parts(net, (heap, maps_told))[0], plain(net, heap))


class BelowTest(FewChecks, unittest.TestCase):

    def expected(self, net, one, other):
        for root in roots(net):
            if many_maps(net, one_of(root), one) > many_maps(net, one_of(root), other):
                return "not", root
        return ("below",)

    def test_all_pairs_of_small_heaps(self):
        words = set()
        for net, heap in small_heaps():
            all_of_it = parted(net, heap)
            for one, other in itertools.product(all_of_it[:9] + all_of_it[-3:], repeat=2):
                told = below(net, one, other)
                self.assertIs(type(told), tuple)
                self.assertEqual(told, self.expected(net, one, other))
                words.add(told[0])
                if one == other:
                    self.assertEqual(told, ("below",))
                # Each below the other they would be one.
                elif told == ("below",):
                    self.assertEqual(below(net, other, one)[0], "not")
        self.assertEqual(words, {"below", "not"})

    def test_by_maps_of_the_parts(self):
        for net, heap in small_heaps()[::5]:
            all_of_it = parted(net, heap)
            for one, other in itertools.product(all_of_it[:3] + all_of_it[-2:], repeat=2):
                first = None
                for root in roots(net):
                    book = book_of(net, one_of(root))
                    if many_maps_told(net, book, book_of(net, one)) > many_maps_told(net, book, book_of(net, other)):
                        first = root
                        break
                self.assertEqual(below(net, one, other), ("below",) if first is None else ("not", first))

    def test_the_plain_one_is_below_all_and_rooms_alone_above_all(self):
        for net, heap in small_heaps():
            least, most = plain(net, heap), tuple(sorted((root, n) for root, n in zip(units(net), heap) if n))
            for counts in parted(net, heap):
                self.assertEqual(below(net, least, counts), ("below",))
                self.assertEqual(below(net, counts, most), ("below",))

    def test_what_a_tie_makes_is_below_what_is_joined(self):
        for net in nets_of(SHAPES):
            for seed in range(3):
                over, under = drawn_counts(net, 2, 2, seed), drawn_counts(net, 2, 2, seed + 9)
                both = added(over, under)
                if is_counts(net, both):
                    first, second = book_of(net, over), book_of(net, under)
                    book = tied(net, first, second, drawn_tie(net, first, second))[0]
                    self.assertEqual(below(net, parts(net, book)[0], both), ("below",))

    def test_by_hand(self):
        net = Net(2, ((0, 1),))
        both, split = (((1, 1), 1),), (((0, 1), 1), ((1, 0), 1))
        self.assertEqual(below(net, both, split), ("below",))
        self.assertEqual(below(net, split, both), ("not", (1, 0)))
        self.assertEqual(below(net, (), ()), ("below",))

    def test_no_fit(self):
        for one, other in [((), GOOD), (GOOD, ()), (GOOD, GOOD[:1]), ((((0, 0, 1), 1),), (((0, 1, 0), 1),))]:
            self.refused(NoFit, below, NET, one, other)
            for thing in NO_COUNTS[:20]:
                self.refused(NoCounts, below, NET, one, thing)


class AllBooksTest(FewChecks, unittest.TestCase):

    def test_as_many_maps_less_as_many_ties_as_the_form_says(self):
        for net in nets_of(SHAPES):
            one, other = drawn_counts(net, 3, 2, 1), drawn_counts(net, 3, 2, 2)
            self.assertEqual(many_maps(net, one, other) - many_ties(net, one, other),
                             form_of(net, heap_told(net, one), heap_told(net, other)))

    def test_every_drawn_book_has_one_of_the_partings(self):
        for net, heap in small_heaps():
            self.assertIn(parts(net, drawn_book(net, heap))[0], parted(net, heap))


if __name__ == "__main__":
    unittest.main()
