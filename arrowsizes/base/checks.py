"""Checks of arguments that several modules share."""

from arrowsizes.base.numbers import is_integer
from arrowsizes.errors import InvalidPrime


def check_prime(prime):
    """Raise InvalidPrime unless the value is 2, 3, 5 or 7."""
    if not is_integer(prime) or prime not in (2, 3, 5, 7):
        raise InvalidPrime("none of the primes 2, 3, 5 and 7")
