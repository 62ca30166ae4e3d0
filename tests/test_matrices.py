import unittest

from rootrooms.errors import NoFit, NoMatrix, NoNumber, NoPrime
from rootrooms.matrices import above, beside, flipped, is_matrix, noughts, ones, plus, product, times
from tests.samples import SIZES, SOME_PRIMES, MatrixChecks, drawn, made
from tests.things import BAD, GOOD, NO_MATRICES, NO_PRIMES, NO_SIZES, NO_WHOLES, PRIMES, VERY_LONG


class IsMatrixTest(MatrixChecks, unittest.TestCase):

    def test_small_sizes(self):
        for prime in SOME_PRIMES:
            for rows, columns in SIZES:
                self.assertIs(is_matrix(drawn(rows, columns, prime), prime=prime), True)
        for matrix in [(0, 0, ()), (0, 3, ()), (3, 0, ((), (), ())), (1, 1, ((0,),)), (1, 1, ((1,),)), GOOD]:
            self.assertIs(is_matrix(matrix, prime=5), True)

    def test_every_number_by_every_prime(self):
        for prime in PRIMES:
            for number in range(-2, 100):
                self.assertIs(is_matrix((1, 1, ((number,),)), prime=prime), 0 <= number < prime)

    def test_great_sizes(self):
        for rows, columns in [(2000, 0), (0, 2000), (2000, 1), (1, 2000), (2000, 2000)]:
            matrix = (rows, columns, ((1,) * columns,) * rows)
            self.assertIs(is_matrix(matrix, prime=2), True)
        for rows, columns in [(2001, 0), (0, 2001), (2001, 1), (1, 2001), (2001, 2000), (2000, 2001)]:
            matrix = (rows, columns, ((1,) * columns,) * rows)
            self.assertIs(is_matrix(matrix, prime=2), False)

    def test_one_thing_wrong_in_a_great_one(self):
        row = (1,) * 2000
        for wrong in [(1,) * 1999 + (5,), (1,) * 1999 + (True,), (-1,) + (1,) * 1999, (1,) * 1999, list(row)]:
            self.assertIs(is_matrix((2000, 2000, (row,) * 1999 + (wrong,)), prime=5), False)

    def test_one_thing_otherwise(self):
        for thing in BAD:
            with self.subTest(number=BAD.index(thing)):
                self.assertIs(is_matrix(thing, prime=5), False)

    def test_anything(self):
        for thing in NO_MATRICES:
            self.assertIs(is_matrix(thing, prime=5), False)
            self.assertIs(is_matrix((thing, thing, thing), prime=5), False)
            self.assertIs(is_matrix((1, 1, thing), prime=5), False)
            self.assertIs(is_matrix((1, 1, (thing,)), prime=5), thing == (2,))

    def test_what_is_no_prime(self):
        for prime in NO_PRIMES:
            self.refused(NoPrime, is_matrix, GOOD, prime=prime)
            self.refused(NoPrime, is_matrix, None, prime=prime)


class ProductTest(MatrixChecks, unittest.TestCase):

    def test_by_hand(self):
        one = (2, 3, ((1, 2, 3), (0, 4, 1)))
        other = (3, 2, ((1, 0), (2, 4), (3, 1)))
        self.told(product(one, other, prime=5), (2, 2, ((4, 1), (1, 2))), 5)
        self.told(product(other, one, prime=5), (3, 3, ((1, 2, 3), (2, 0, 0), (3, 0, 0))), 5)

    def test_all_small_sizes(self):
        for prime in SOME_PRIMES:
            for rows, between in SIZES:
                for columns in range(4):
                    one = drawn(rows, between, prime, 1)
                    other = drawn(between, columns, prime, 2)
                    expected = made(rows, columns, lambda i, k: sum(
                        one[2][i][j] * other[2][j][k] for j in range(between)) % prime)
                    self.told(product(one, other, prime=prime), expected, prime)

    def test_noughts_in_the_middle(self):
        self.told(product((2, 0, ((), ())), (0, 3, ()), prime=5), (2, 3, ((0, 0, 0), (0, 0, 0))), 5)
        self.told(product((0, 2, ()), (2, 3, ((1, 1, 1), (1, 1, 1))), prime=5), (0, 3, ()), 5)
        self.told(product((2, 1, ((1,), (1,))), (1, 0, ((),)), prime=5), (2, 0, ((), ())), 5)
        self.told(product((0, 0, ()), (0, 0, ()), prime=5), (0, 0, ()), 5)

    def test_the_greatest_numbers(self):
        for prime in PRIMES:
            one = made(2, 7, lambda i, k: prime - 1)
            other = made(7, 3, lambda i, k: prime - 1)
            self.told(product(one, other, prime=prime), made(2, 3, lambda i, k: 7 % prime), prime)

    def test_great_sizes(self):
        row = (1, 2000, ((96,) * 2000,))
        column = (2000, 1, ((96,),) * 2000)
        self.told(product(row, column, prime=97), (1, 1, ((2000 % 97,),)), 97)
        self.told(product((2000, 0, ((),) * 2000), (0, 1, ()), prime=97), (2000, 1, ((0,),) * 2000), 97)
        self.assertEqual(product(ones(2000), ones(2000), prime=2), ones(2000))

    def test_no_fit(self):
        for one in SIZES:
            for other in SIZES:
                if one[1] != other[0]:
                    self.refused(NoFit, product, drawn(*one, 5), drawn(*other, 5), prime=5)

    def test_refusals_in_their_order(self):
        other = (2, 2, ((0, 1), (1, 0)))
        for thing in NO_MATRICES:
            self.refused(NoMatrix, product, thing, other, prime=5)
            self.refused(NoMatrix, product, other, thing, prime=5)
            self.refused(NoMatrix, product, thing, thing, prime=5)
        for prime in NO_PRIMES:
            self.refused(NoPrime, product, other, other, prime=prime)
            self.refused(NoPrime, product, None, GOOD, prime=prime)
            self.refused(NoPrime, product, GOOD, GOOD, prime=prime)


class PlusTest(MatrixChecks, unittest.TestCase):

    def test_by_hand(self):
        one = (2, 2, ((1, 2), (3, 4)))
        other = (2, 2, ((4, 4), (4, 0)))
        self.told(plus(one, other, prime=5), (2, 2, ((0, 1), (2, 4))), 5)

    def test_all_small_sizes(self):
        for prime in SOME_PRIMES:
            for rows, columns in SIZES:
                one = drawn(rows, columns, prime, 1)
                other = drawn(rows, columns, prime, 2)
                expected = made(rows, columns, lambda i, k: (one[2][i][k] + other[2][i][k]) % prime)
                self.told(plus(one, other, prime=prime), expected, prime)
                self.told(plus(other, one, prime=prime), expected, prime)

    def test_no_fit(self):
        for one in SIZES:
            for other in SIZES:
                if one != other:
                    self.refused(NoFit, plus, drawn(*one, 5), drawn(*other, 5), prime=5)

    def test_refusals_in_their_order(self):
        other = (1, 1, ((1,),))
        for thing in NO_MATRICES:
            self.refused(NoMatrix, plus, thing, other, prime=5)
            self.refused(NoMatrix, plus, other, thing, prime=5)
        for prime in NO_PRIMES:
            self.refused(NoPrime, plus, other, other, prime=prime)
            self.refused(NoPrime, plus, other, GOOD, prime=prime)
            self.refused(NoPrime, plus, None, other, prime=prime)


class TimesTest(MatrixChecks, unittest.TestCase):

    def test_by_hand(self):
        one = (2, 2, ((1, 2), (3, 4)))
        self.told(times(3, one, prime=5), (2, 2, ((3, 1), (4, 2))), 5)
        self.told(times(-1, one, prime=5), (2, 2, ((4, 3), (2, 1))), 5)
        self.told(times(0, one, prime=5), (2, 2, ((0, 0), (0, 0))), 5)
        self.told(times(1, one, prime=5), one, 5)

    def test_all_small_sizes_and_any_number(self):
        for prime in SOME_PRIMES:
            for rows, columns in SIZES:
                one = drawn(rows, columns, prime)
                for number in [*range(-6, 7), prime, -prime, prime + 1, 10 ** 30, VERY_LONG, -VERY_LONG, 1 - VERY_LONG]:
                    expected = made(rows, columns, lambda i, k: number * one[2][i][k] % prime)
                    self.told(times(number, one, prime=prime), expected, prime)

    def test_refusals_in_their_order(self):
        for thing in NO_WHOLES:
            self.refused(NoNumber, times, thing, GOOD, prime=5)
            self.refused(NoNumber, times, thing, None, prime=5)
            self.refused(NoPrime, times, thing, None, prime=4)
        for thing in NO_MATRICES:
            self.refused(NoMatrix, times, 2, thing, prime=5)
            self.refused(NoNumber, times, None, thing, prime=5)
        for prime in NO_PRIMES:
            self.refused(NoPrime, times, 2, GOOD, prime=prime)
            self.refused(NoPrime, times, None, GOOD, prime=prime)
            self.refused(NoPrime, times, 2, None, prime=prime)


class FlippedTest(MatrixChecks, unittest.TestCase):

    def test_by_hand(self):
        self.told(flipped(GOOD, prime=5), (3, 2, ((0, 3), (1, 4), (2, 0))), 5)
        self.told(flipped((0, 3, ()), prime=5), (3, 0, ((), (), ())), 5)
        self.told(flipped((3, 0, ((), (), ())), prime=5), (0, 3, ()), 5)
        self.told(flipped((0, 0, ()), prime=5), (0, 0, ()), 5)

    def test_all_small_sizes(self):
        for prime in SOME_PRIMES:
            for rows, columns in SIZES:
                one = drawn(rows, columns, prime)
                expected = made(columns, rows, lambda i, k: one[2][k][i])
                self.told(flipped(one, prime=prime), expected, prime)
                self.assertEqual(flipped(flipped(one, prime=prime), prime=prime), one)

    def test_great_sizes(self):
        self.told(flipped((2000, 0, ((),) * 2000), prime=2), (0, 2000, ()), 2)
        self.told(flipped((0, 2000, ()), prime=2), (2000, 0, ((),) * 2000), 2)

    def test_refusals_in_their_order(self):
        for thing in NO_MATRICES:
            self.refused(NoMatrix, flipped, thing, prime=5)
        for prime in NO_PRIMES:
            self.refused(NoPrime, flipped, GOOD, prime=prime)
            self.refused(NoPrime, flipped, None, prime=prime)


class BesideTest(MatrixChecks, unittest.TestCase):

    def test_by_hand(self):
        other = (2, 1, ((4,), (2,)))
        self.told(beside([GOOD, other], rows=2, prime=5), (2, 4, ((0, 1, 2, 4), (3, 4, 0, 2))), 5)
        self.told(beside([other, GOOD], rows=2, prime=5), (2, 4, ((4, 0, 1, 2), (2, 3, 4, 0))), 5)
        self.told(beside([GOOD], rows=2, prime=5), GOOD, 5)

    def test_of_none(self):
        for rows in [0, 1, 3, 2000]:
            self.told(beside([], rows=rows, prime=5), (rows, 0, ((),) * rows), 5)

    def test_small_sizes(self):
        for prime in SOME_PRIMES:
            for rows in range(4):
                matrices = [drawn(rows, columns, prime, columns) for columns in [2, 0, 1, 3, 0]]
                for start in range(5):
                    some = matrices[start:]
                    expected = rows, sum(one[1] for one in some), tuple(
                        sum((one[2][i] for one in some), ()) for i in range(rows))
                    self.told(beside(some, rows=rows, prime=prime), expected, prime)

    def test_the_greatest_size(self):
        thousand = (1, 1000, ((1,) * 1000,))
        self.told(beside([thousand] * 2, rows=1, prime=2), (1, 2000, ((1,) * 2000,)), 2)
        self.refused(NoFit, beside, [thousand, thousand, (1, 1, ((1,),))], rows=1, prime=2)
        self.refused(NoFit, beside, [(0, 2000, ()), (0, 1, ())], rows=0, prime=2)
        self.told(beside([(0, 2000, ()), (0, 0, ())], rows=0, prime=2), (0, 2000, ()), 2)
        self.refused(NoFit, beside, [(0, 2000, ())] * 3000, rows=0, prime=2)

    def test_no_fit(self):
        for one in SIZES:
            for rows in [*range(5), 2000]:
                if one[0] != rows:
                    self.refused(NoFit, beside, [drawn(*one, 5)], rows=rows, prime=5)
                    self.refused(NoFit, beside, [drawn(rows, 1, 5), drawn(*one, 5)], rows=rows, prime=5)
                    self.refused(NoFit, beside, [drawn(*one, 5), drawn(rows, 1, 5)], rows=rows, prime=5)
        for rows in NO_SIZES:
            self.refused(NoFit, beside, [], rows=rows, prime=5)
            self.refused(NoFit, beside, [GOOD], rows=rows, prime=5)
        self.refused(NoFit, beside, [(1, 1, ((1,),))], rows=True, prime=5)
        self.refused(NoFit, beside, [(0, 1, ())], rows=False, prime=5)

    def test_refusals_in_their_order(self):
        for thing in NO_MATRICES:
            for matrices in [[thing], [GOOD, thing], [thing, GOOD], [GOOD, thing, GOOD]]:
                self.refused(NoMatrix, beside, matrices, rows=2, prime=5)
                self.refused(NoMatrix, beside, matrices, rows=None, prime=5)
                self.refused(NoMatrix, beside, matrices, rows=3, prime=5)
        for prime in NO_PRIMES:
            self.refused(NoPrime, beside, [GOOD], rows=2, prime=prime)
            self.refused(NoPrime, beside, [], rows=0, prime=prime)
            self.refused(NoPrime, beside, [None], rows=None, prime=prime)

    def test_what_is_no_list(self):
        for thing in [None, True, 0, "", "ab", (), (GOOD,), GOOD]:
            self.refused(NoMatrix, beside, thing, rows=2, prime=5)
            self.refused(NoMatrix, beside, thing, rows=None, prime=5)
            self.refused(NoPrime, beside, thing, rows=2, prime=1)

    def test_what_is_handed_in_is_as_it_was(self):
        other = (2, 1, ((4,), (2,)))
        matrices = [GOOD, other]
        matrix = beside(matrices, rows=2, prime=5)
        self.assertEqual(matrices, [GOOD, other])
        self.refused(NoFit, beside, matrices, rows=3, prime=5)
        self.assertEqual(matrices, [GOOD, other])
        matrices.clear()
        self.told(matrix, (2, 4, ((0, 1, 2, 4), (3, 4, 0, 2))), 5)


class AboveTest(MatrixChecks, unittest.TestCase):

    def test_by_hand(self):
        other = (1, 3, ((4, 2, 1),))
        self.told(above([GOOD, other], columns=3, prime=5), (3, 3, ((0, 1, 2), (3, 4, 0), (4, 2, 1))), 5)
        self.told(above([other, GOOD], columns=3, prime=5), (3, 3, ((4, 2, 1), (0, 1, 2), (3, 4, 0))), 5)
        self.told(above([GOOD], columns=3, prime=5), GOOD, 5)

    def test_of_none(self):
        for columns in [0, 1, 3, 2000]:
            self.told(above([], columns=columns, prime=5), (0, columns, ()), 5)

    def test_small_sizes(self):
        for prime in SOME_PRIMES:
            for columns in range(4):
                matrices = [drawn(rows, columns, prime, rows) for rows in [2, 0, 1, 3, 0]]
                for start in range(5):
                    some = matrices[start:]
                    expected = sum(one[0] for one in some), columns, sum((one[2] for one in some), ())
                    self.told(above(some, columns=columns, prime=prime), expected, prime)

    def test_the_greatest_size(self):
        thousand = (1000, 1, ((1,),) * 1000)
        self.told(above([thousand] * 2, columns=1, prime=2), (2000, 1, ((1,),) * 2000), 2)
        self.refused(NoFit, above, [thousand, thousand, (1, 1, ((1,),))], columns=1, prime=2)
        tall = (2000, 0, ((),) * 2000)
        self.refused(NoFit, above, [tall, (1, 0, ((),))], columns=0, prime=2)
        self.told(above([tall, (0, 0, ())], columns=0, prime=2), tall, 2)

    def test_no_fit(self):
        for one in SIZES:
            for columns in [*range(5), 2000]:
                if one[1] != columns:
                    self.refused(NoFit, above, [drawn(*one, 5)], columns=columns, prime=5)
                    self.refused(NoFit, above, [drawn(1, columns, 5), drawn(*one, 5)], columns=columns, prime=5)
                    self.refused(NoFit, above, [drawn(*one, 5), drawn(1, columns, 5)], columns=columns, prime=5)
        for columns in NO_SIZES:
            self.refused(NoFit, above, [], columns=columns, prime=5)
            self.refused(NoFit, above, [GOOD], columns=columns, prime=5)
        self.refused(NoFit, above, [(1, 1, ((1,),))], columns=True, prime=5)
        self.refused(NoFit, above, [(1, 0, ((),))], columns=False, prime=5)

    def test_refusals_in_their_order(self):
        for thing in NO_MATRICES:
            for matrices in [[thing], [GOOD, thing], [thing, GOOD], [GOOD, thing, GOOD]]:
                self.refused(NoMatrix, above, matrices, columns=3, prime=5)
                self.refused(NoMatrix, above, matrices, columns=None, prime=5)
                self.refused(NoMatrix, above, matrices, columns=2, prime=5)
        for prime in NO_PRIMES:
            self.refused(NoPrime, above, [GOOD], columns=3, prime=prime)
            self.refused(NoPrime, above, [], columns=0, prime=prime)
            self.refused(NoPrime, above, [None], columns=None, prime=prime)

    def test_what_is_no_list(self):
        for thing in [None, True, 0, "", "ab", (), (GOOD,), GOOD]:
            self.refused(NoMatrix, above, thing, columns=3, prime=5)
            self.refused(NoMatrix, above, thing, columns=None, prime=5)
            self.refused(NoPrime, above, thing, columns=3, prime=1)

    def test_what_is_handed_in_is_as_it_was(self):
        other = (1, 3, ((4, 2, 1),))
        matrices = [GOOD, other]
        matrix = above(matrices, columns=3, prime=5)
        self.assertEqual(matrices, [GOOD, other])
        self.refused(NoFit, above, matrices, columns=2, prime=5)
        self.assertEqual(matrices, [GOOD, other])
        matrices.clear()
        self.told(matrix, (3, 3, ((0, 1, 2), (3, 4, 0), (4, 2, 1))), 5)


class OnesAndNoughtsTest(MatrixChecks, unittest.TestCase):

    def test_ones(self):
        self.told(ones(0), (0, 0, ()), 2)
        self.told(ones(1), (1, 1, ((1,),)), 2)
        for many in [2, 3, 10, 100]:
            self.told(ones(many), made(many, many, lambda i, k: int(i == k)), 2)

    def test_ones_of_the_greatest_size(self):
        matrix = ones(2000)
        self.assertEqual(matrix[:2], (2000, 2000))
        self.assertTrue(is_matrix(matrix, prime=2))
        self.assertTrue(all(row[k] == 1 and sum(row) == 1 for k, row in enumerate(matrix[2])))

    def test_ones_leave_a_matrix_as_it_is(self):
        for prime in SOME_PRIMES:
            for rows, columns in SIZES:
                one = drawn(rows, columns, prime)
                self.assertEqual(product(ones(rows), one, prime=prime), one)
                self.assertEqual(product(one, ones(columns), prime=prime), one)

    def test_noughts(self):
        for rows, columns in [*SIZES, (10, 7), (2000, 0), (0, 2000), (2000, 2), (2, 2000)]:
            self.told(noughts(rows, columns), (rows, columns, ((0,) * columns,) * rows), 2)
        self.assertEqual(noughts(2000, 2000), (2000, 2000, ((0,) * 2000,) * 2000))

    def test_what_is_no_size(self):
        for thing in NO_SIZES:
            self.refused(NoFit, ones, thing)
            self.refused(NoFit, noughts, thing, 1)
            self.refused(NoFit, noughts, 1, thing)
            self.refused(NoFit, noughts, 0, thing)
            self.refused(NoFit, noughts, thing, 0)
            self.refused(NoFit, noughts, thing, thing)


if __name__ == "__main__":
    unittest.main()
