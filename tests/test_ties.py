import itertools
import unittest

from rootrooms.books import is_book, nought_book
from rootrooms.errors import NoBook, NoTie, TooGreat
from rootrooms.nets import Net
from rootrooms.ties import held, is_tie, tied, ties
from tests.samples import all_matrices, drawn, empty, rank_of, times_by
from tests.shelf import (
    BOOK, NET, NO_BOOKS, BookChecks, all_undone, alone_book, arrow_sizes, bare_book, book_nets, drawn_book,
    drawn_tie, in_a_row, otherwise, rank_of_all, some_books, summed, undone_by,
)
from tests.things import NO_MATRICES

# A tie of this book over BOOK.
OVER = ((1, 2, 1), ((2, 1, ((1,), (3,))), (2, 1, ((0,), (4,))), (2, 1, ((2,), (2,))), (1, 1, ((1,),))))
TIE = ((1, 1, ((3,),)), (1, 1, ((0,),)), (1, 1, ((4,),)), (2, 1, ((1,), (2,))))
NO_TIES = otherwise(TIE, 5) + NO_MATRICES + [OVER[1], BOOK[1], BOOK, OVER]


def sizes_of(net, over, under):
    return arrow_sizes(net, over[0], under[0])


def no_tie_at_all(net, over, under):
    return tuple(empty(rows, columns) for rows, columns in sizes_of(net, over, under))


def book_pairs(most=3, many=3):
    """Return nets with two books."""
    return [(net, one, other) for net in book_nets()
            for one, other in itertools.product(some_books(net, most, many), repeat=2)]


class TieChecks(BookChecks):

    def is_made_tie(self, net, over, under, thing):
        """The thing is a tie of over over under, made of tuples and whole numbers alone."""
        self.is_sized(net, sizes_of(net, over, under), thing)
        self.assertIs(is_tie(net, over, under, thing), True)

    def is_sized(self, net, sizes, thing):
        self.assertIs(type(thing), tuple)
        self.assertEqual([matrix[:2] for matrix in thing], sizes)
        for matrix in thing:
            self.is_made(matrix, net.prime)


class IsTieTest(TieChecks, unittest.TestCase):

    def test_ties(self):
        self.is_made_tie(NET, OVER, BOOK, TIE)
        for net, over, under in book_pairs():
            self.is_made_tie(net, over, under, drawn_tie(net, over, under))
            self.is_made_tie(net, over, under, no_tie_at_all(net, over, under))

    def test_one_thing_otherwise_and_anything(self):
        for thing in NO_TIES:
            self.assertIs(is_tie(NET, OVER, BOOK, thing), False)
            self.assertIs(is_tie(NET, OVER, BOOK, (thing,) * 4), False)
        for net, over, under in book_pairs():
            for thing in otherwise(drawn_tie(net, over, under), net.prime):
                self.assertIs(is_tie(net, over, under, thing), False)

    def test_the_two_books_are_not_one_for_the_other(self):
        self.assertIs(is_tie(NET, BOOK, OVER, TIE), False)
        net = Net(2, ((0, 1),))
        one, other = ((1, 2), (empty(2, 1),)), ((3, 4), (empty(4, 3),))
        for size in itertools.product(range(6), repeat=2):
            self.assertIs(is_tie(net, one, other, (empty(*size),)), size == (4, 1))
            self.assertIs(is_tie(net, other, one, (empty(*size),)), size == (2, 3))

    def test_a_net_without_arrows(self):
        net = Net(2, (), prime=3)
        self.assertIs(is_tie(net, ((1, 2), ()), ((2, 1), ()), ()), True)
        for thing in [[], None, ((),), (empty(1, 1),), (empty(0, 0),), "", 0, False]:
            self.assertIs(is_tie(net, ((1, 2), ()), ((2, 1), ()), thing), False)

    def test_refusals_in_their_order(self):
        for thing in NO_BOOKS:
            self.refused(NoBook, is_tie, NET, thing, BOOK, TIE)
            self.refused(NoBook, is_tie, NET, OVER, thing, TIE)
            self.refused(NoBook, is_tie, NET, OVER, thing, None)
            self.refused(NoBook, is_tie, NET, thing, thing, thing)


class TiesTest(TieChecks, unittest.TestCase):

    def is_all(self, net, over, under):
        """With the undone ones the ties told give all ties, each in just one way."""
        told = ties(net, over, under)
        self.assertIs(type(told), list)
        for thing in told:
            self.is_made_tie(net, over, under, thing)
        undone = all_undone(net, over, under)
        places = sum(a * b for a, b in sizes_of(net, over, under))
        self.assertEqual(rank_of_all(told + undone, net.prime), places)
        self.assertEqual(len(told), places - rank_of_all(undone, net.prime))

    def test_over_all_nets(self):
        for net, over, under in book_pairs():
            self.is_all(net, over, under)

    def test_by_hand(self):
        net = Net(2, ((0, 1),), prime=97)
        first, last, both = alone_book(net, 0), alone_book(net, 1), ((1, 1), ((1, 1, ((5,),)),))
        self.assertEqual(len(ties(net, first, last)), 1)
        self.assertNotEqual(ties(net, first, last)[0], (empty(1, 1),))
        for over, under in [(last, first), (first, first), (last, last), (both, both), (first, both), (both, last)]:
            self.assertEqual(ties(net, over, under), [])
        many = Net(2, ((0, 1),) * 12)
        self.assertEqual(len(ties(many, alone_book(many, 0), alone_book(many, 1))), 12)
        self.assertEqual(ties(many, alone_book(many, 1), alone_book(many, 0)), [])

    def test_nought_books_and_a_net_without_arrows(self):
        for net in book_nets():
            nought = nought_book(net)
            self.assertEqual(ties(net, nought, nought), [])
            for book in some_books(net):
                self.assertEqual(ties(net, nought, book), [])
                self.assertEqual(ties(net, book, nought), [])
        self.assertEqual(ties(Net(2, ()), ((3, 4), ()), ((5, 6), ())), [])

    def test_no_sum_of_times_of_them_but_noughts_is_undone(self):
        for net, over, under in book_pairs():
            told = ties(net, over, under)
            for seed in range(3 if told else 0):
                thing = summed(told, sizes_of(net, over, under), net.prime, seed)
                self.assertEqual(held(net, over, under, thing)[0], "held" if any(in_a_row(thing)) else "undone")

    def test_a_told_list_is_the_askers_own(self):
        for net, over, under in book_pairs():
            kept = repr((over, under))
            told = ties(net, over, under)
            again = list(told)
            told.reverse()
            told.append(None)
            del told[0]
            self.assertEqual(ties(net, over, under), again)
            self.assertEqual(repr((over, under)), kept)

    def test_refusals_in_their_order(self):
        for thing in NO_BOOKS:
            self.refused(NoBook, ties, NET, thing, BOOK)
            self.refused(NoBook, ties, NET, BOOK, thing)


class TiedTest(TieChecks, unittest.TestCase):

    def test_by_hand(self):
        book, way_in, way_out = tied(NET, OVER, BOOK, TIE)
        self.assertEqual(book, ((3, 3, 2), (
            (3, 3, ((1, 2, 3), (0, 0, 1), (0, 0, 3))),
            (3, 2, ((4, 0), (0, 0), (0, 4))),
            (3, 3, ((0, 3, 4), (0, 0, 2), (0, 0, 2))),
            (3, 2, ((2, 1), (0, 2), (0, 1))),
        )))
        self.assertEqual(way_in, ((3, 2, ((1, 0), (0, 1), (0, 0))), (3, 1, ((1,), (0,), (0,))), (2, 1, ((1,), (0,)))))
        self.assertEqual(way_out, ((1, 3, ((0, 0, 1),)), (2, 3, ((0, 1, 0), (0, 0, 1))), (1, 2, ((0, 1),))))

    def test_number_by_number(self):
        for net, over, under in book_pairs():
            tie = drawn_tie(net, over, under)
            told = tied(net, over, under, tie)
            self.assertIs(type(told), tuple)
            book, way_in, way_out = told
            self.is_made_book(net, book)
            self.is_made_map(net, under, book, way_in)
            self.is_made_map(net, book, over, way_out)
            self.assertEqual(book[0], tuple(map(sum, zip(under[0], over[0]))))
            for arrow, (rows, columns, numbers) in enumerate(book[1]):
                low, right, more = under[1][arrow], tie[arrow], over[1][arrow]
                self.assertEqual(numbers[:low[0]], tuple(a + b for a, b in zip(low[2], right[2])))
                self.assertEqual(numbers[low[0]:], tuple((0,) * low[1] + line for line in more[2]))
            for room, (one, more) in enumerate(zip(under[0], over[0])):
                # The way in kills nothing, the way out hits all, and one behind the other is noughts.
                self.assertEqual(rank_of(way_in[room], net.prime), one)
                self.assertEqual(rank_of(way_out[room], net.prime), more)
                self.assertEqual(times_by(way_out[room], way_in[room], net.prime), empty(more, one))
                self.assertEqual([line.index(1) for line in way_out[room][2]], list(range(one, one + more)))
                self.assertEqual([line for line in way_in[room][2]][one:], [(0,) * one] * more)

    def test_a_tie_of_noughts_joins(self):
        for net, over, under in book_pairs():
            book, way_in, way_out = tied(net, over, under, no_tie_at_all(net, over, under))
            for arrow, (low, more) in enumerate(zip(under[1], over[1])):
                self.assertEqual(book[1][arrow][2], tuple(line + (0,) * more[1] for line in low[2])
                                 + tuple((0,) * low[1] + line for line in more[2]))

    def test_too_great(self):
        net = Net(3, ((0, 1), (2, 1)), prime=3)
        cases = [
            ((6, 6, 3), (6, 6, 3), True), ((12, 12, 6), (0, 0, 0), True), ((0, 0, 0), (12, 12, 6), True),
            ((12, 0, 0), (0, 12, 6), True), ((12, 0, 0), (0, 12, 7), False), ((7, 0, 0), (6, 0, 0), False),
            ((6, 6, 3), (6, 6, 4), False), ((0, 12, 0), (0, 1, 0), False), ((12, 12, 6), (12, 12, 6), False),
            ((5, 5, 5), (5, 5, 5), True), ((5, 5, 5), (5, 5, 6), False), ((6, 5, 5), (5, 5, 5), False),
        ]
        for one, other, fits in cases:
            over, under = drawn_book(net, one), drawn_book(net, other)
            tie = drawn_tie(net, over, under)
            if fits:
                self.is_made_book(net, tied(net, over, under, tie)[0])
            else:
                self.refused(TooGreat, tied, net, over, under, tie)
                for thing in otherwise(tie, 3):
                    self.refused(NoTie, tied, net, over, under, thing)
                # What is too great to be tied may have ties all the same.
                self.assertIs(is_tie(net, over, under, tie), True)
                self.assertIn(held(net, over, under, tie)[0], ["undone", "held"])
        self.refused(TooGreat, tied, Net(1, ()), ((12,), ()), ((1,), ()), ())

    def test_refusals_in_their_order(self):
        for thing in NO_BOOKS:
            self.refused(NoBook, tied, NET, thing, BOOK, TIE)
            self.refused(NoBook, tied, NET, OVER, thing, TIE)
            self.refused(NoBook, tied, NET, OVER, thing, None)
        for thing in NO_TIES:
            self.refused(NoTie, tied, NET, OVER, BOOK, thing)
        self.refused(NoTie, tied, NET, BOOK, OVER, TIE)

    def test_what_is_handed_in_is_as_it_was(self):
        for net, over, under in book_pairs():
            tie = drawn_tie(net, over, under)
            kept = repr((over, under, tie))
            self.assertEqual(tied(net, over, under, tie), tied(net, over, under, tie))
            self.assertEqual(held(net, over, under, tie), held(net, over, under, tie))
            self.assertEqual(repr((over, under, tie)), kept)


class HeldTest(TieChecks, unittest.TestCase):

    def holds(self, net, over, under, tie, undone):
        """What is told of the tie is so; undone are ties of which all undone ones are sums of times."""
        told = held(net, over, under, tie)
        self.assertIs(type(told), tuple)
        word, found = told
        if word == "undone":
            self.is_sized(net, list(zip(under[0], over[0])), found)
            self.assertEqual(undone_by(net, over, under, found), tie)
        else:
            self.assertEqual(word, "held")
            self.is_made_tie(net, over, under, found)
            for thing in undone:
                self.assertEqual(self.weighed(found, thing) % net.prime, 0)
            self.assertNotEqual(self.weighed(found, tie) % net.prime, 0)
        return word

    def weighed(self, weights, tie):
        return sum(x * y for x, y in zip(in_a_row(weights), in_a_row(tie), strict=True))

    def test_over_all_nets(self):
        seen = set()
        for net, over, under in book_pairs():
            undone = all_undone(net, over, under)
            rank = rank_of_all(undone, net.prime)
            for seed in range(3):
                tie = drawn_tie(net, over, under, seed)
                grows = rank_of_all(undone + [tie], net.prime) > rank
                word = self.holds(net, over, under, tie, undone)
                self.assertEqual(word, "held" if grows else "undone")
                seen.add((net.prime, word))
        self.assertEqual(len(seen), 6)

    def test_what_is_undone(self):
        for net, over, under in book_pairs():
            for seed in range(3):
                h = tuple(drawn(rows, columns, net.prime, (seed, room))
                          for room, (rows, columns) in enumerate(zip(under[0], over[0])))
                tie = undone_by(net, over, under, h)
                self.assertEqual(self.holds(net, over, under, tie, []), "undone")

    def test_what_is_told_and_more_than_noughts_is_held(self):
        for net, over, under in book_pairs():
            undone = all_undone(net, over, under)
            for tie in ties(net, over, under)[:4]:
                self.assertEqual(self.holds(net, over, under, tie, undone), "held")
                one = summed(undone, sizes_of(net, over, under), net.prime)
                both = tuple((a[0], a[1], tuple(tuple((x + y) % net.prime for x, y in zip(left, right))
                                                for left, right in zip(a[2], b[2]))) for a, b in zip(tie, one))
                self.assertEqual(self.holds(net, over, under, both, undone), "held")

    def test_all_small_ties(self):
        for net in [Net(2, ((0, 1), (1, 0)), prime=3), Net(2, ((0, 1), (0, 1)), prime=2), Net(3, ((0, 1), (1, 2)))]:
            over, under = [drawn_book(net, (1, 2, 1)[:net.rooms], seed) for seed in range(2)]
            undone = all_undone(net, over, under)
            words = []
            for tie in itertools.product(*[all_matrices(*size, net.prime) for size in sizes_of(net, over, under)]):
                words.append(self.holds(net, over, under, tie, undone))
            self.assertEqual(words.count("undone"), net.prime ** rank_of_all(undone, net.prime))

    def test_a_tie_of_noughts(self):
        for net, over, under in book_pairs():
            tie = no_tie_at_all(net, over, under)
            self.assertEqual(self.holds(net, over, under, tie, []), "undone")

    def test_a_net_without_arrows(self):
        net = Net(2, (), prime=3)
        for over, under in itertools.product([((1, 2), ()), ((0, 3), ()), ((0, 0), ())], repeat=2):
            self.assertEqual(self.holds(net, over, under, (), []), "undone")

    def test_great_ones(self):
        for prime in [2, 97]:
            net = Net(3, ((0, 1), (1, 2), (2, 0), (0, 1)) * 3, prime=prime)
            over, under = drawn_book(net, (12, 12, 6)), drawn_book(net, (6, 12, 12))
            undone = all_undone(net, over, under)[::40]
            self.assertEqual(self.holds(net, over, under, drawn_tie(net, over, under), undone), "held")
            h = tuple(drawn(rows, columns, prime, room) for room, (rows, columns) in enumerate(zip(under[0], over[0])))
            self.assertEqual(self.holds(net, over, under, undone_by(net, over, under, h), []), "undone")

    def test_refusals_in_their_order(self):
        for thing in NO_BOOKS:
            self.refused(NoBook, held, NET, thing, BOOK, TIE)
            self.refused(NoBook, held, NET, OVER, thing, TIE)
            self.refused(NoBook, held, NET, OVER, thing, None)
        for thing in NO_TIES:
            self.refused(NoTie, held, NET, OVER, BOOK, thing)
        self.refused(NoTie, held, NET, BOOK, OVER, TIE)

    def test_the_undone_tie_parts_the_tied_book(self):
        # Undone by h, the over one has a way back into the tied book: less h above ones.
        for net, over, under in book_pairs():
            h = tuple(drawn(rows, columns, net.prime, room)
                      for room, (rows, columns) in enumerate(zip(under[0], over[0])))
            tie = undone_by(net, over, under, h)
            book, _, way_out = tied(net, over, under, tie)
            self.assertIs(is_book(net, book), True)
            found = held(net, over, under, tie)[1]
            way = tuple((a + b, b, tuple(tuple(-x % net.prime for x in line) for line in matrix[2])
                         + tuple(tuple(int(i == k) for k in range(b)) for i in range(b)))
                        for matrix, a, b in zip(found, under[0], over[0]))
            self.is_made_map(net, over, book, way)


class ByHandTest(TieChecks, unittest.TestCase):

    def test_one_arrow(self):
        net = Net(2, ((0, 1),), prime=5)
        first, last = alone_book(net, 0), alone_book(net, 1)
        tie = ((1, 1, ((2,),)),)
        word, weights = held(net, first, last, tie)
        self.assertEqual(word, "held")
        self.assertNotEqual(weights, ((1, 1, ((0,),)),))
        self.assertEqual(tied(net, first, last, tie)[0], ((1, 1), tie))
        # Under the book of both, the same tie is undone by its third part at the begin.
        both = ((1, 1), ((1, 1, ((3,),)),))
        self.assertEqual(held(net, first, both, tie), ("undone", ((1, 1, ((4,),)), empty(1, 0))))
        # Over the book of both, by less its third part at the end.
        self.assertEqual(held(net, both, last, tie), ("undone", (empty(0, 1), (1, 1, ((1,),)))))

    def test_bare_books(self):
        # Where all matrices are noughts, no tie but that of noughts is undone.
        for net in book_nets():
            over, under = bare_book(net, (1,) * net.rooms), bare_book(net, (2,) * net.rooms)
            self.assertEqual(len(ties(net, over, under)), 2 * len(net.arrows))
            for tie in ties(net, over, under):
                self.assertEqual(held(net, over, under, tie)[0], "held")


if __name__ == "__main__":
    unittest.main()
