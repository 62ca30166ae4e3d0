import itertools
import unittest

from rootrooms.books import nought_book
from rootrooms.counting import many_alike, many_selves, many_tied, many_under
from rootrooms.errors import NoBook, NoCounts, NoFit, TooMany
from rootrooms.nets import Net
from rootrooms.parted import heap_of, many_maps, many_ties, parted, plain
from rootrooms.parts import book_of, is_counts, parts
from rootrooms.roots import roots
from rootrooms.ties import tied, ties
from tests.few import (
    GREAT_SHAPES, SHAPES, FewChecks, added, drawn_counts, mixed, nets_of,
)
from tests.samples import all_matrices, rank_of
from tests.shelf import (
    all_maps, all_undone, arrow_sizes, drawn_book, no_books, rank_of_all,
)
from tests.test_parted import GOOD, NET, NO_COUNTS

TINY = [
    (Net(1, ()), (2,)), (Net(1, (), prime=3), (2,)), (Net(2, (), prime=2), (1, 2)),
    (Net(2, ((0, 1),)), (2, 2)), (Net(2, ((1, 0),), prime=3), (2, 1)), (Net(3, ((0, 1), (2, 1))), (1, 2, 1)),
    (Net(3, ((0, 1), (1, 2))), (1, 2, 1)), (Net(3, ((1, 0), (1, 2)), prime=3), (1, 1, 1)),
    (Net(4, ((0, 1), (2, 1), (3, 1))), (1, 1, 1, 1)), (Net(4, ((1, 0), (1, 2), (3, 1))), (1, 2, 1, 1)),
]


def all_books(net, heap):
    """Return every book of this heap."""
    choices = [all_matrices(*size, net.prime) for size in arrow_sizes(net, heap, heap)]
    return [(heap, maps_told) for maps_told in itertools.product(*choices)]


def all_spaces(many, prime):
    """Return every space in one of so many numbers, as the list of what is in it."""
    everything = list(itertools.product(range(prime), repeat=many))
    found = {}
    for chosen in itertools.product(everything, repeat=many):
        inside = frozenset(
            tuple(sum(t * row[k] for t, row in zip(times, chosen)) % prime for k in range(many))
            for times in itertools.product(range(prime), repeat=many))
        found[inside] = chosen
    return list(found)


def led_by(matrix, vector, prime):
    return tuple(sum(x * y for x, y in zip(row, vector)) % prime for row in matrix[2])


def all_sub_books(net, book):
    """Return every sub-book of a small book: for each room a space that each arrow leads into the one at its end."""
    choices = [all_spaces(many, net.prime) for many in book[0]]
    found = []
    for spaces in itertools.product(*choices):
        if all(led_by(matrix, vector, net.prime) in spaces[end]
               for (begin, end), matrix in zip(net.arrows, book[1]) for vector in spaces[begin]):
            found.append(spaces)
    return found


def basis_of(space, many, prime):
    """Return vectors of a space of which all in it come in one way, and single ones that fill these."""
    rows, more = [], []
    for vector in sorted(space) + [tuple(int(k == i) for i in range(many)) for k in range(many)]:
        lines = tuple(rows + more + [vector])
        if rank_of((len(lines), many, lines), prime) == len(lines):
            (rows if vector in space else more).append(vector)
    return rows, more


def written_by(vector, lines, prime):
    """Return by which times of these lines, of a full rank, the vector comes."""
    for times in itertools.product(range(prime), repeat=len(lines)):
        if tuple(sum(t * line[k] for t, line in zip(times, lines)) % prime for k in range(len(vector))) == vector:
            return times
    raise AssertionError


def cut_by(net, book, spaces):
    """Return the book that these spaces are, and the rest of the book."""
    bases = [basis_of(space, many, net.prime) for space, many in zip(spaces, book[0])]
    inner, outer = [], []
    for (begin, end), matrix in zip(net.arrows, book[1]):
        (rows, more), (end_rows, end_more) = bases[begin], bases[end]
        led = [written_by(led_by(matrix, vector, net.prime), end_rows + end_more, net.prime)
               for vector in rows + more]
        inner.append((len(end_rows), len(rows), tuple(
            tuple(line[k] for line in led[:len(rows)]) for k in range(len(end_rows)))))
        outer.append((len(end_more), len(more), tuple(
            tuple(line[k] for line in led[len(rows):]) for k in range(len(end_rows), len(end_rows + end_more)))))
    under = (tuple(len(rows) for rows, _ in bases), tuple(inner))
    return under, (tuple(len(more) for _, more in bases), tuple(outer))


class SelvesAndAlikeTest(FewChecks, unittest.TestCase):

    def test_selves_by_going_through_all(self):
        for net, heap in TINY:
            for counts in parted(net, heap):
                book = book_of(net, counts)
                many = sum(all(rank_of(matrix, net.prime) == matrix[0] for matrix in led)
                           for led in all_maps(net, book, book))
                self.assertEqual(many_selves(net, counts), many)

    def test_books_alike_by_going_through_all(self):
        for net, heap in TINY:
            told = {}
            for book in all_books(net, heap):
                counts = parts(net, book)[0]
                told[counts] = told.get(counts, 0) + 1
            self.assertEqual({counts: many_alike(net, counts) for counts in parted(net, heap)}, told)

    def test_all_books_of_a_heap(self):
        for net in nets_of(SHAPES):
            for heap in [(1,) * net.rooms, (2, 1, 1, 2, 0, 1, 1)[:net.rooms], (3, 4, 1, 0, 2, 1, 0)[:net.rooms]]:
                all_of_it = parted(net, heap)
                exponent = sum(heap[begin] * heap[end] for begin, end in net.arrows)
                self.assertEqual(sum(many_alike(net, counts) for counts in all_of_it), net.prime ** exponent)

    def test_all_books_of_a_heap_over_great_nets(self):
        for net in nets_of(GREAT_SHAPES):
            heap = (1,) * net.rooms
            exponent = len(net.arrows)
            self.assertEqual(sum(many_alike(net, counts) for counts in parted(net, heap)), net.prime ** exponent)

    def test_great_numbers(self):
        net = Net(2, ((0, 1),), prime=97)
        counts = [many_alike(net, one) for one in parted(net, (12, 12))]
        self.assertEqual(sum(counts), 97 ** 144)
        self.assertEqual((len(counts), min(counts)), (13, 1))
        self.assertGreater(max(counts), 2 ** 900)
        self.assertGreater(many_selves(net, (((1, 1), 12),)), 2 ** 900)
        whole = 1
        for k in range(12):
            whole *= 97 ** 12 - 97 ** k
        self.assertEqual(many_selves(net, (((1, 1), 12),)), whole)
        self.assertEqual(many_selves(net, (((0, 1), 12), ((1, 0), 12))), whole * whole)
        self.assertEqual(many_alike(net, (((0, 1), 12), ((1, 0), 12))), 1)
        self.assertEqual(many_alike(net, (((1, 1), 12),)), whole)

    def test_of_the_nought_book(self):
        for net in nets_of(SHAPES):
            self.assertEqual((many_selves(net, ()), many_alike(net, ())), (1, 1))

    def test_by_hand(self):
        net = Net(2, ((0, 1),), prime=3)
        # Times of ones but noughts, and for both together any map of the one part to the other.
        self.assertEqual(many_selves(net, (((1, 1), 1),)), 2)
        self.assertEqual(many_selves(net, (((0, 1), 1), ((1, 0), 1))), 4)
        self.assertEqual(many_selves(net, (((0, 1), 1), ((1, 1), 1))), 12)
        self.assertEqual(many_alike(net, (((1, 1), 1),)), 2)
        self.assertEqual(many_alike(net, (((0, 1), 1), ((1, 1), 1))), 8)

    def test_refusals(self):
        for function in [many_selves, many_alike]:
            for thing in NO_COUNTS:
                self.refused(NoCounts, function, NET, thing)
            for thing in NO_COUNTS + [(), GOOD]:
                self.not_few(function, thing)


class UnderTest(FewChecks, unittest.TestCase):

    def test_by_going_through_all(self):
        for net, heap in TINY:
            for whole in parted(net, heap)[:8]:
                book = mixed(net, book_of(net, whole))
                told = {}
                for spaces in all_sub_books(net, book):
                    under, top = cut_by(net, book, spaces)
                    pair = parts(net, top)[0], parts(net, under)[0]
                    told[pair] = told.get(pair, 0) + 1
                for below in itertools.product(*[range(many + 1) for many in heap]):
                    rest = tuple(a - b for a, b in zip(heap, below))
                    for top, under in itertools.product(parted(net, rest), parted(net, below)):
                        self.assertEqual(many_under(net, book, top, under), told.get((top, under), 0))

    def test_all_and_nothing(self):
        for net in nets_of(SHAPES):
            counts, other = drawn_counts(net, 2, 1, 1), drawn_counts(net, 2, 1, 2)
            book = mixed(net, book_of(net, counts))
            self.assertEqual(many_under(net, book, counts, ()), 1)
            if net.prime ** many_maps(net, counts, counts) <= 2000:
                self.assertEqual(many_under(net, book, (), counts), 1)
            self.assertEqual(many_under(net, nought_book(net), (), ()), 1)
            if heap_of(net, counts) == heap_of(net, other) and counts != other:
                self.assertEqual(many_under(net, book, other, ()), 0)

    def test_in_a_single_room(self):
        for prime in [2, 3, 5]:
            net = Net(1, (), prime=prime)
            # In four numbers: 1 and all of it, as many lines as rests of one, and planes.
            lines = (prime ** 4 - 1) // (prime - 1)
            planes = (prime ** 4 - 1) * (prime ** 3 - 1) // ((prime ** 2 - 1) * (prime - 1))
            expected = [1, lines, planes, lines, 1]
            for many in range(5):
                counts = [(((1,), number),) if number else () for number in [4 - many, many]]
                if prime ** (4 * many) <= 2000:
                    self.assertEqual(many_under(net, ((4,), ()), *counts), expected[many])
                else:
                    self.refused(TooMany, many_under, net, ((4,), ()), *counts)

    def test_too_many(self):
        # All maps of one number's room to many numbers are the prime's products, as many primes.
        for prime, fits in [(2, 10), (3, 6), (43, 2), (11, 3), (47, 1), (97, 1)]:
            net = Net(1, (), prime=prime)
            for many, good in [(fits, True), (fits + 1, False)]:
                top = (((1,), many - 1),) if many > 1 else ()
                if good:
                    self.assertEqual(many_under(net, ((many,), ()), top, (((1,), 1),)),
                                     (prime ** many - 1) // (prime - 1))
                else:
                    self.refused(TooMany, many_under, net, ((many,), ()), top, (((1,), 1),))
        net = Net(1, (), prime=2)
        # As soon as there are more than 2,000 maps, whatever is counted.
        self.refused(TooMany, many_under, net, ((4,), ()), (((1,), 1),), (((1,), 3),))
        self.refused(NoFit, many_under, net, ((12,), ()), (((1,), 1),), (((1,), 10),))

    def test_refusals_in_their_order(self):
        book = drawn_book(NET, (1, 2, 1))
        top, under = (((0, 1, 0), 1), ((1, 0, 0), 1)), (((0, 1, 1), 1),)
        self.assertIs(type(many_under(NET, book, top, under)), int)
        for thing in no_books(NET, book):
            self.refused(NoBook, many_under, NET, thing, top, under)
            self.refused(NoBook, many_under, NET, thing, None, None)
        for thing in NO_COUNTS:
            self.refused(NoCounts, many_under, NET, book, thing, under)
            self.refused(NoCounts, many_under, NET, book, top, thing)
            self.refused(NoCounts, many_under, NET, drawn_book(NET, (0, 0, 0)), top, thing)
        for one, other in [((), ()), (top, ()), ((), under), (under, under), (top, top)]:
            self.refused(NoFit, many_under, NET, book, one, other)
        great = (((0, 0, 1), 12), ((0, 1, 0), 12))
        self.refused(NoFit, many_under, NET, book, great, great)
        for thing in NO_COUNTS + [()]:
            self.not_few(many_under, thing, thing, thing)


class TiedTest(FewChecks, unittest.TestCase):

    def test_by_going_through_all(self):
        for net, heap in TINY[3:]:
            for below in itertools.product(*[range(many + 1) for many in heap]):
                rest = tuple(a - b for a, b in zip(heap, below))
                for top, under in itertools.product(parted(net, rest)[:3], parted(net, below)[:3]):
                    over, base = book_of(net, top), book_of(net, under)
                    told = {}
                    for tie in itertools.product(*[all_matrices(*size, net.prime)
                                                   for size in arrow_sizes(net, over[0], base[0])]):
                        counts = parts(net, tied(net, over, base, tie)[0])[0]
                        told[counts] = told.get(counts, 0) + 1
                    same = net.prime ** rank_of_all(all_undone(net, over, base), net.prime)
                    for whole in parted(net, heap):
                        self.assertEqual(many_tied(net, whole, top, under) * same, told.get(whole, 0))

    def test_all_ties_together(self):
        for net in nets_of(SHAPES[:7]):
            for seed in range(3):
                top, under = drawn_counts(net, 2, 2, seed), drawn_counts(net, 2, 2, seed + 5)
                if not is_counts(net, added(top, under)):
                    continue
                many = net.prime ** many_ties(net, top, under)
                heap = heap_of(net, added(top, under))
                if many > 2000:
                    self.refused(TooMany, many_tied, net, plain(net, heap), top, under)
                elif sum(heap) < 9:
                    wholes = parted(net, heap)
                    self.assertEqual(sum(many_tied(net, whole, top, under) for whole in wholes), many)

    def test_too_many(self):
        net = Net(2, ((0, 1),), prime=2)
        begin, end, both = (1, 0), (0, 1), (1, 1)
        cases = [(5, 2, True), (2, 5, True), (10, 1, True), (11, 1, False), (4, 3, False), (6, 2, False)]
        for top, under, fits in cases:
            whole = ((end, under), (begin, top))
            if fits:
                self.assertEqual(many_tied(net, whole, ((begin, top),), ((end, under),)), 1)
            else:
                self.refused(TooMany, many_tied, net, whole, ((begin, top),), ((end, under),))
        net = Net(2, ((0, 1),), prime=43)
        self.assertEqual(many_tied(net, ((begin, 1), (both, 1)), ((begin, 2),), ((end, 1),)), 43 * 43 - 1)
        self.refused(TooMany, many_tied, net, tuple(sorted([(begin, 2), (both, 1)])), ((begin, 3),), ((end, 1),))
        net = Net(2, ((0, 1),), prime=97)
        self.assertEqual(many_tied(net, ((both, 1),), ((begin, 1),), ((end, 1),)), 96)
        self.refused(TooMany, many_tied, net, ((begin, 1), (both, 1)), ((begin, 2),), ((end, 1),))

    def test_all_and_nothing(self):
        for net in nets_of(SHAPES):
            counts = drawn_counts(net, 3, 2, 1)
            self.assertEqual(many_tied(net, counts, counts, ()), 1)
            self.assertEqual(many_tied(net, counts, (), counts), 1)
            self.assertEqual(many_tied(net, (), (), ()), 1)

    def test_refusals_in_their_order(self):
        whole, top, under = (((0, 1, 1), 1), ((1, 1, 0), 1)), (((0, 1, 0), 1), ((1, 0, 0), 1)), (((0, 1, 1), 1),)
        self.assertIs(type(many_tied(NET, whole, top, under)), int)
        for thing in NO_COUNTS:
            self.refused(NoCounts, many_tied, NET, thing, top, under)
            self.refused(NoCounts, many_tied, NET, whole, thing, under)
            self.refused(NoCounts, many_tied, NET, whole, top, thing)
            self.refused(NoCounts, many_tied, NET, (), top, thing)
        for three in [((), top, under), (whole, (), under), (whole, top, ()), (whole, top, top), (top, whole, under)]:
            self.refused(NoFit, many_tied, NET, *three)
        great = (((0, 0, 1), 12), ((0, 1, 0), 12))
        self.refused(NoFit, many_tied, NET, great, great, great)
        for thing in NO_COUNTS + [()]:
            self.not_few(many_tied, thing, thing, thing)


class TogetherTest(FewChecks, unittest.TestCase):

    def hangs_together(self, net, whole, top, under):
        book = mixed(net, book_of(net, whole))
        sub_books = many_under(net, book, top, under)
        some = many_tied(net, whole, top, under)
        every = net.prime ** many_maps(net, top, under)
        self.assertEqual(sub_books * many_selves(net, top) * many_selves(net, under) * every,
                         some * many_selves(net, whole))
        return sub_books

    def test_how_the_two_hang_together(self):
        seen = 0
        for net in nets_of(SHAPES):
            some = [counts for counts in [drawn_counts(net, 2, 1, seed) for seed in range(5)] if counts]
            for top, under in itertools.product(some, repeat=2):
                both = added(top, under)
                if not is_counts(net, both) or net.prime ** many_ties(net, top, under) > 100:
                    continue
                heap = heap_of(net, both)
                wholes = {both, plain(net, heap)}
                if sum(heap) < 6:
                    wholes |= set(parted(net, heap)[:20])
                for whole in sorted(wholes):
                    if net.prime ** many_maps(net, under, whole) <= 100:
                        seen += self.hangs_together(net, whole, top, under) > 0
        self.assertGreater(seen, 100)

    def test_over_great_nets(self):
        for net in nets_of(GREAT_SHAPES)[::3]:
            self.assertEqual(net.prime, 2)
            some = roots(net)[::11]
            for over, below in itertools.permutations(some[:6], 2):
                top, under = ((over, 1),), ((below, 1),)
                if is_counts(net, added(top, under)) and many_ties(net, top, under):
                    one, other = book_of(net, top), book_of(net, under)
                    whole = parts(net, tied(net, one, other, ties(net, one, other)[0])[0])[0]
                    self.assertGreater(self.hangs_together(net, whole, top, under), 0)
                    self.hangs_together(net, plain(net, heap_of(net, whole)), top, under)


if __name__ == "__main__":
    unittest.main()
