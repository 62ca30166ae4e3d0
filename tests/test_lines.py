import unittest

from rootrooms.errors import NoFit, NoMatrix, NoPrime
from rootrooms.lines import fills, kills, least, rank, solved, undo
from rootrooms.matrices import noughts, ones
from tests.samples import (
    SIZES, SOME_PRIMES, MatrixChecks, all_matrices, drawn, drawn_of_rank, empty, flipped_over, lined_up, made,
    rank_of, stacked, times_by, unit,
)
from tests.things import GOOD, NO_MATRICES, NO_PRIMES


def samples(prime):
    """Return matrices of all small sizes and ranks, and some larger ones."""
    found = [drawn(rows, columns, prime, seed) for rows, columns in SIZES for seed in range(3)]
    found += [empty(rows, columns) for rows, columns in SIZES]
    for rows, columns in [(2, 5), (5, 2), (4, 4), (4, 6), (7, 5), (9, 9), (12, 20), (20, 12)]:
        found += [drawn_of_rank(rows, columns, of_rank, prime, of_rank) for of_rank in range(min(rows, columns) + 1)]
    # a row twice, and a row that is a sum of others
    one = drawn(3, 5, prime, "rows")
    line = tuple((x + y) % prime for x, y in zip(one[2][0], one[2][2]))
    found.append((4, 5, one[2] + (one[2][1],)))
    found.append((4, 5, one[2][:2] + (line,) + one[2][2:]))
    found.append((5, 5, (one[2][0],) * 5))
    found.append((4, 5, ((0,) * 5,) + one[2]))
    return found


def mixers(many, prime):
    """Return some matrices with a contrary, of so many rows."""
    drawn_ones = [drawn(many, many, prime, ("mixer", seed)) for seed in range(6)]
    return [one for one in drawn_ones if rank_of(one, prime) == many] + [
        unit(many), made(many, many, lambda i, k: (prime - 1) * (i + k == many - 1)),
        made(many, many, lambda i, k: int(i <= k))]


class LeastTest(MatrixChecks, unittest.TestCase):

    def test_by_hand(self):
        one = (3, 4, ((0, 2, 4, 1), (0, 1, 2, 0), (3, 0, 1, 1)))
        form, leads = least(one, prime=5)
        self.told(form, (3, 4, ((1, 0, 2, 0), (0, 1, 2, 0), (0, 0, 0, 1))), 5)
        self.assertEqual(leads, (0, 1, 3))
        # By 3 the same line of thought, with a row that falls away.
        self.assertEqual(least((3, 3, ((0, 1, 2), (1, 1, 1), (1, 2, 0))), prime=3),
                         ((3, 3, ((1, 0, 2), (0, 1, 2), (0, 0, 0))), (0, 1)))
        self.assertEqual(least((2, 2, ((0, 0), (0, 96))), prime=97), ((2, 2, ((0, 1), (0, 0))), (1,)))
        self.assertEqual(least((2, 3, ((1, 1, 0), (1, 1, 1))), prime=2), ((2, 3, ((1, 1, 0), (0, 0, 1))), (0, 2)))

    def test_of_no_rows_no_columns_noughts(self):
        for rows, columns in SIZES:
            self.assertEqual(least(empty(rows, columns), prime=7), (empty(rows, columns), ()))
        self.assertEqual(least((0, 2000, ()), prime=2), ((0, 2000, ()), ()))
        self.assertEqual(least((2000, 0, ((),) * 2000), prime=2), ((2000, 0, ((),) * 2000), ()))

    def test_the_form_tells_itself(self):
        for prime in SOME_PRIMES:
            for one in samples(prime):
                told = least(one, prime=prime)
                self.assertIs(type(told), tuple)
                form, leads = told
                self.is_made(form, prime)
                self.assertEqual(form[:2], one[:2])
                self.assertIs(type(leads), tuple)
                self.assertEqual(len(leads), rank_of(one, prime))
                self.assertEqual(list(leads), sorted(set(leads)))
                for at, line in enumerate(form[2]):
                    if at >= len(leads):
                        self.assertFalse(any(line))
                        continue
                    self.assertFalse(any(line[:leads[at]]))
                    self.assertEqual([other[leads[at]] for other in form[2]],
                                     [int(k == at) for k in range(one[0])])

    def test_rows_are_sums_of_times_of_one_another(self):
        for prime in SOME_PRIMES:
            for one in samples(prime):
                form, leads = least(one, prime=prime)
                self.assertEqual(rank_of(stacked(one, form), prime), len(leads))
                # Each row is told by its own numbers at the leads.
                for line in one[2]:
                    sums = [sum(line[lead] * form[2][at][k] for at, lead in enumerate(leads)) % prime
                            for k in range(one[1])]
                    self.assertEqual(tuple(sums), line)

    def test_of_a_least_form_and_of_a_mixed_matrix(self):
        for prime in [2, 3, 97]:
            for one in samples(prime):
                told = least(one, prime=prime)
                self.assertEqual(least(told[0], prime=prime), told)
                for mixer in mixers(one[0], prime):
                    self.assertEqual(least(times_by(mixer, one, prime), prime=prime), told)

    def test_great_sizes(self):
        self.assertEqual(least(ones(2000), prime=97), (ones(2000), tuple(range(2000))))
        row = tuple(k % 97 for k in range(2000))
        form, leads = least((2000, 2000, (row,) * 2000), prime=97)
        self.assertEqual((form[:2], form[2][0], leads), ((2000, 2000), row, (1,)))
        self.assertFalse(any(any(line) for line in form[2][1:]))

    def test_refusals_in_their_order(self):
        for thing in NO_MATRICES:
            self.refused(NoMatrix, least, thing, prime=5)
        for prime in NO_PRIMES:
            self.refused(NoPrime, least, GOOD, prime=prime)
            self.refused(NoPrime, least, None, prime=prime)


class RankTest(MatrixChecks, unittest.TestCase):

    def test_as_many_as_the_leads(self):
        for prime in SOME_PRIMES:
            for one in samples(prime):
                told = rank(one, prime=prime)
                self.assertIs(type(told), int)
                self.assertEqual(told, rank_of(one, prime))
                self.assertEqual(told, len(least(one, prime=prime)[1]))
                self.assertEqual(told, rank(flipped_over(one), prime=prime))

    def test_the_prime_counts(self):
        one = (2, 2, ((1, 1), (1, 4)))
        self.assertEqual([rank(one, prime=prime) for prime in [5, 7, 97]], [2, 2, 2])
        self.assertEqual(rank((2, 2, ((1, 1), (1, 1))), prime=3), 1)
        self.assertEqual(rank((2, 2, ((1, 2), (2, 1))), prime=3), 1)
        self.assertEqual(rank((2, 2, ((1, 2), (2, 1))), prime=5), 2)

    def test_great_sizes(self):
        self.assertEqual(rank(ones(2000), prime=2), 2000)
        self.assertEqual(rank(noughts(2000, 2000), prime=2), 0)

    def test_refusals_in_their_order(self):
        for thing in NO_MATRICES:
            self.refused(NoMatrix, rank, thing, prime=5)
        for prime in NO_PRIMES:
            self.refused(NoPrime, rank, GOOD, prime=prime)
            self.refused(NoPrime, rank, None, prime=prime)


class KillsTest(MatrixChecks, unittest.TestCase):

    def test_as_the_document_tells(self):
        for prime in SOME_PRIMES:
            for one in samples(prime):
                told = kills(one, prime=prime)
                self.is_made(told, prime)
                many = one[1] - rank_of(one, prime)
                self.assertEqual(told[:2], (one[1], many))
                self.assertEqual(rank_of(told, prime), many)
                self.assertEqual(times_by(one, told, prime), empty(one[0], many))

    def test_of_no_rows_no_columns_noughts_full_rank(self):
        self.assertEqual(rank(kills((0, 3, ()), prime=3), prime=3), 3)
        self.assertEqual(kills((3, 0, ((), (), ())), prime=3), (0, 0, ()))
        self.assertEqual(kills((0, 0, ()), prime=3), (0, 0, ()))
        self.assertEqual(rank(kills(empty(2, 3), prime=3), prime=3), 3)
        self.assertEqual(kills(unit(3), prime=3), (3, 0, ((), (), ())))
        self.assertEqual(kills((3, 1, ((0,), (2,), (1,))), prime=3), (1, 0, ((),)))
        self.assertEqual(kills(ones(2000), prime=3), (2000, 0, ((),) * 2000))
        self.assertEqual(kills((0, 2000, ()), prime=3)[:2], (2000, 2000))

    def test_refusals_in_their_order(self):
        for thing in NO_MATRICES:
            self.refused(NoMatrix, kills, thing, prime=5)
        for prime in NO_PRIMES:
            self.refused(NoPrime, kills, GOOD, prime=prime)
            self.refused(NoPrime, kills, None, prime=prime)


class FillsTest(MatrixChecks, unittest.TestCase):

    def test_as_the_document_tells(self):
        for prime in SOME_PRIMES:
            for one in samples(prime):
                told = fills(one, prime=prime)
                self.is_made(told, prime)
                self.assertEqual(told[:2], (one[0], one[0] - rank_of(one, prime)))
                self.assertEqual(rank_of(lined_up(one, told), prime), one[0])

    def test_of_no_rows_no_columns_noughts_full_rank(self):
        self.assertEqual(fills((0, 3, ()), prime=3), (0, 0, ()))
        self.assertEqual(rank(fills((3, 0, ((), (), ())), prime=3), prime=3), 3)
        self.assertEqual(fills((0, 0, ()), prime=3), (0, 0, ()))
        self.assertEqual(rank(fills(empty(3, 2), prime=3), prime=3), 3)
        self.assertEqual(fills(unit(3), prime=3), (3, 0, ((), (), ())))
        self.assertEqual(fills((1, 3, ((0, 2, 1),)), prime=3), (1, 0, ((),)))
        self.assertEqual(fills(ones(2000), prime=3), (2000, 0, ((),) * 2000))
        self.assertEqual(fills((2000, 0, ((),) * 2000), prime=3)[:2], (2000, 2000))

    def test_refusals_in_their_order(self):
        for thing in NO_MATRICES:
            self.refused(NoMatrix, fills, thing, prime=5)
        for prime in NO_PRIMES:
            self.refused(NoPrime, fills, GOOD, prime=prime)
            self.refused(NoPrime, fills, None, prime=prime)


class UndoTest(MatrixChecks, unittest.TestCase):

    def test_by_hand(self):
        self.told(undo((2, 2, ((1, 2), (3, 4))), prime=5), (2, 2, ((3, 1), (4, 2))), 5)
        self.told(undo((2, 2, ((0, 1), (1, 0))), prime=2), (2, 2, ((0, 1), (1, 0))), 2)
        self.told(undo((1, 1, ((96,),)), prime=97), (1, 1, ((96,),)), 97)
        self.told(undo((0, 0, ()), prime=97), (0, 0, ()), 97)

    def test_either_product_is_ones_or_there_is_none(self):
        for prime in SOME_PRIMES:
            for one in samples(prime):
                told = undo(one, prime=prime)
                if one[0] != one[1] or rank_of(one, prime) < one[0]:
                    self.assertIsNone(told)
                else:
                    self.is_made(told, prime)
                    self.assertEqual(times_by(one, told, prime), unit(one[0]))
                    self.assertEqual(times_by(told, one, prime), unit(one[0]))

    def test_all_small_ones(self):
        for prime, many in [(2, 1), (2, 2), (3, 1), (3, 2), (5, 1)]:
            everything = all_matrices(many, many, prime)
            for one in everything:
                found = [other for other in everything if times_by(one, other, prime) == unit(many)]
                self.assertEqual([undo(one, prime=prime)], found or [None])

    def test_great_sizes(self):
        self.assertEqual(undo(ones(2000), prime=97), ones(2000))
        self.assertIsNone(undo(noughts(2000, 2000), prime=97))
        self.assertIsNone(undo((2000, 0, ((),) * 2000), prime=97))

    def test_refusals_in_their_order(self):
        for thing in NO_MATRICES:
            self.refused(NoMatrix, undo, thing, prime=5)
        for prime in NO_PRIMES:
            self.refused(NoPrime, undo, unit(2), prime=prime)
            self.refused(NoPrime, undo, None, prime=prime)


class SolvedTest(MatrixChecks, unittest.TestCase):

    def holds(self, one, right, prime):
        """What is told is so; return its word."""
        told = solved(one, right, prime=prime)
        self.assertIs(type(told), tuple)
        word, matrix = told
        self.is_made(matrix, prime)
        if word == "solved":
            self.assertEqual(matrix[:2], (one[1], right[1]))
            self.assertEqual(times_by(one, matrix, prime), right)
        else:
            self.assertEqual(word, "barred")
            self.assertEqual(matrix[:2], (1, one[0]))
            self.assertEqual(times_by(matrix, one, prime), empty(1, one[1]))
            self.assertNotEqual(times_by(matrix, right, prime), empty(1, right[1]))
        return word

    def test_where_there_is_a_solution(self):
        for prime in SOME_PRIMES:
            for one in samples(prime):
                for columns in range(4):
                    right = times_by(one, drawn(one[1], columns, prime, "x"), prime)
                    self.assertEqual(self.holds(one, right, prime), "solved")

    def test_just_where_the_rank_grows_it_is_barred(self):
        seen = set()
        for prime in SOME_PRIMES:
            for one in samples(prime):
                for columns in range(4):
                    for seed in range(2):
                        right = drawn(one[0], columns, prime, ("right", seed))
                        grows = rank_of(lined_up(one, right), prime) > rank_of(one, prime)
                        word = self.holds(one, right, prime)
                        self.assertEqual(word, "barred" if grows else "solved")
                        seen.add((prime, word))
        self.assertEqual(len(seen), 2 * len(SOME_PRIMES))

    def test_one_column_of_several_bars(self):
        for prime in [2, 3, 97]:
            for seed in range(20):
                one = drawn_of_rank(6, 5, 3, prime, seed)
                right = times_by(one, drawn(5, 3, prime, seed), prime)
                for at in range(3):
                    for k in range(6):
                        changed = made(6, 3, lambda i, j: (right[2][i][j] + (i == k and j == at)) % prime)
                        grows = rank_of(lined_up(one, changed), prime) > rank_of(one, prime)
                        self.assertEqual(self.holds(one, changed, prime), "barred" if grows else "solved")

    def test_no_rows_no_columns(self):
        self.assertEqual(solved((0, 0, ()), (0, 0, ()), prime=2), ("solved", (0, 0, ())))
        self.assertEqual(solved((0, 3, ()), (0, 0, ()), prime=2), ("solved", (3, 0, ((), (), ()))))
        self.assertEqual(self.holds((0, 3, ()), (0, 2, ()), 2), "solved")
        self.assertEqual(solved((2, 0, ((), ())), (2, 0, ((), ())), prime=2), ("solved", (0, 0, ())))
        self.assertEqual(solved((2, 0, ((), ())), empty(2, 3), prime=2), ("solved", (0, 3, ())))
        self.assertEqual(self.holds((2, 0, ((), ())), (2, 1, ((0,), (1,))), 2), "barred")
        self.assertEqual(self.holds(empty(2, 2), (2, 1, ((0,), (1,))), 2), "barred")
        self.assertEqual(self.holds(empty(2, 2), (2, 0, ((), ())), 2), "solved")

    def test_great_sizes(self):
        self.assertEqual(solved(ones(2000), ones(2000), prime=97), ("solved", ones(2000)))
        right = (2000, 1, ((0,),) * 1999 + ((1,),))
        told = solved((2000, 2000, ((1,) * 2000,) * 2000), right, prime=2)
        self.assertEqual(told[0], "barred")
        weights = told[1][2][0]
        self.assertEqual((len(weights), sum(weights) % 2, weights[-1]), (2000, 0, 1))

    def test_no_fit(self):
        for one in SIZES:
            for other in SIZES:
                if one[0] != other[0]:
                    self.refused(NoFit, solved, drawn(*one, 5), drawn(*other, 5), prime=5)

    def test_refusals_in_their_order(self):
        for thing in NO_MATRICES:
            self.refused(NoMatrix, solved, thing, unit(2), prime=5)
            self.refused(NoMatrix, solved, unit(2), thing, prime=5)
            self.refused(NoMatrix, solved, unit(7), thing, prime=5)
            self.refused(NoMatrix, solved, thing, thing, prime=5)
        for prime in NO_PRIMES:
            self.refused(NoPrime, solved, unit(2), unit(2), prime=prime)
            self.refused(NoPrime, solved, None, None, prime=prime)
            self.refused(NoPrime, solved, unit(2), unit(3), prime=prime)


class AskedTwiceTest(unittest.TestCase):

    def test_what_is_handed_in_is_as_it_was_and_is_told_again(self):
        for prime in [2, 97]:
            for one in samples(prime):
                before = repr(one)
                for function in [least, rank, kills, fills, undo]:
                    self.assertEqual(function(one, prime=prime), function(one, prime=prime))
                self.assertEqual(solved(one, one, prime=prime), solved(one, one, prime=prime))
                self.assertEqual(repr(one), before)


if __name__ == "__main__":
    unittest.main()
