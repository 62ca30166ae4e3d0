import unittest

from rootrooms.errors import NoNumber, NoPrime
from rootrooms.rests import contrary, is_prime
from tests.things import NO_PRIMES, NO_WHOLES, PRIMES, VERY_LONG, Refusals


class IsPrimeTest(unittest.TestCase):

    def test_small_numbers(self):
        for number in range(-5, 121):
            with self.subTest(number=number):
                self.assertIs(is_prime(number), number in PRIMES)

    def test_greater_numbers(self):
        for number in [121, 127, 997, 7919, 10 ** 9 + 7, 2 ** 61 - 1, VERY_LONG, VERY_LONG + 1, -VERY_LONG]:
            self.assertIs(is_prime(number), False)
        for prime in PRIMES:
            self.assertIs(is_prime(-prime), False)

    def test_anything(self):
        for thing in NO_PRIMES:
            self.assertIs(is_prime(thing), False)


class ContraryTest(Refusals, unittest.TestCase):

    def test_every_number_of_every_prime(self):
        for prime in PRIMES:
            for number in range(1, prime):
                other = contrary(number, prime=prime)
                self.assertIs(type(other), int)
                self.assertTrue(1 <= other < prime)
                self.assertEqual(number * other % prime, 1)

    def test_some_by_hand(self):
        self.assertEqual(contrary(1, prime=2), 1)
        self.assertEqual(contrary(2, prime=3), 2)
        self.assertEqual(contrary(3, prime=7), 5)
        self.assertEqual(contrary(5, prime=97), 39)
        self.assertEqual(contrary(96, prime=97), 96)

    def test_what_is_no_number(self):
        for prime in [2, 3, 7, 97]:
            numbers = [0, prime, prime + 1, 2 * prime, 2 * prime + 1, -1, -2, 1 - prime, -prime]
            for thing in numbers + [VERY_LONG, VERY_LONG + 1, -VERY_LONG] + NO_WHOLES:
                self.refused(NoNumber, contrary, thing, prime=prime)

    def test_what_is_no_prime(self):
        for prime in NO_PRIMES:
            self.refused(NoPrime, contrary, 1, prime=prime)

    def test_the_prime_is_refused_ahead_of_the_number(self):
        for prime in NO_PRIMES:
            for thing in [0, -1, True, None, "a", [1], VERY_LONG]:
                self.refused(NoPrime, contrary, thing, prime=prime)

    def test_what_is_handed_in_is_as_it_was(self):
        thing = [1, [2, 3]]
        self.refused(NoNumber, contrary, thing, prime=5)
        self.refused(NoPrime, contrary, 1, prime=thing)
        self.assertEqual(thing, [1, [2, 3]])


if __name__ == "__main__":
    unittest.main()
