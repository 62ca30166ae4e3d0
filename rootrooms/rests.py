"""Numbers by a prime: the rests from 0 to the prime less 1."""

from rootrooms.errors import NoNumber, NoPrime
from rootrooms.wholes import is_whole

GREATEST_PRIME = 97


def is_prime(thing):
    """Tell of anything whether it is a prime from 2 to 97."""
    if not is_whole(thing) or not 2 <= thing <= GREATEST_PRIME:
        return False
    return all([thing % number for number in range(2, thing)])


def need_prime(prime):
    """Refuse what is no prime."""
    if not is_prime(prime):
        raise NoPrime("a prime from 2 to 97 is due")


def contrary(number, *, prime):
    """Tell the number whose product with this one is 1."""
    need_prime(prime)
    if not is_whole(number) or not 1 <= number < prime:
        raise NoNumber("a number from 1 to the prime less 1 is due")
    other = 1
    while number * other % prime != 1:
        other += 1
    return other
